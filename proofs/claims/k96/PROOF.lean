import PyProof.Rows.All
import Wide.All
import OpenK.AllK
import Wide.FinOn
import Lean
import PyProof.EqAt
import PyProof.EqKinds
import PyProof.TupleCall
import KE.KIsAll
import KE.KLam
import KE.KTryDeep
import PyProof.ExcAttrAll.ValueError
import KE.KSortTup
import KE.KItemsList
import PyProof.Rows.SortRuns
import KE.KDictList
import PyProof.StrWalks
import PyProof.FString5
import PyProof.PureStr
import PyProof.CollectIter
import PyProof.StrOps2
import PyProof.FitsReplace
import PyProof.Rows.SortStr
import PyProof.Rows.SetFrom
import PyProof.FactsAll.set
import PyProof.ListStr
import PyProof.Rows.StrClose
import PySem.Challenge.RW_growurns_k96_names_and_many_urns_at_a_de
open PySem renaming wpAny_bind->b7,Value->b9,Shared->d9,wpAny_pure->f9,Program->j0,sizeLine->j6,wpAny->j8,model->n6,World->w5,mainGlobals->A1,Around->A3,strLen_append->A9,starEach->B9,wpAny_mono->C4,FuncData->C5,wpAny_field->D5,wpAny_newObj_type->E4,PyData->E7,wpAny_setField_rec->F0,wpAny_holding->F2,wpAny_callSpecial?_slot->F6,wpAny_call_entry->G1,DictEntry->J2,boot_len->J8,wpAny_typeNameOfWhole_itemiter->K0,wpAny_typeNameOf_itemiter->N5,rawInt->N6,Scope->O9,compareOp->P7,sysModules->R4,sizeLine_eq->R7,wpAny_setField->S7,wpAny_attempt->S8,cellsFrom->T7,wpAny_truthy_bool->V6,wpAny_isOneOf_itemiter->V7,wpAny_rule->X6,pyNext->Y3,wpAny_dictEntries->Z1,codeAny->Z2,backTo->Z7,wpAny_dictEpoch->aP,bootBuiltins->aV,wpAny_fieldsOf->bJ,pushCells->bK,firstArgMember->bL,NameKind->bM,wpAny_typeNameOfWhole_keyiter->cf,wpAny_pyIter_tuple->cj,wpAny_Call_Name_kw->cm,wpAny_passesOwn->cA,letOwnedTupleGo->cB,wpAny_standAt->cF,mem_of_lookup->cS,wpAny_seqItems->da,IsItemIter->dm,tupleKind->dw,codeAny_mono->dz,wpAny_typeNameOf_keyiter->eE,wpAny_comprehension_free->eF,behindInMarks->eG,attributeBase->eI,wpAny_execs_nil->eW,codeAny_builtin->eZ,tupleKind_room_in1->fm,assignEach->fq,noteFrame->fC,Arguments->fE,wpAny_newTuple->fU,foldedSetIterable->fV,cLine->fW,binaryOp->fX,assign->fY,Result->fZ,wpAny_isInstance->hV,typeIs_str->hZ,plainId_quiet->iq,Builtin->iw,sliceBounds->iM,setField->iO,pushCells_keeps->jh,codeAmong->jX,TriplesOk->jY,newFunctionEnv->km,isSubtype_stop->ko,wpAny_pyIter_list->ly,keywordEach->lC,Model->lE,wpAny_newList->lU,assignInOrder->lV,swapsWith->mz,setFlight->mB,bindArgs->mC,wpAny_call->nJ,relabel->nM,holding->nN,call_meetsIn->nP,builtinsNs->nQ,wpAny_loadPart'->oM,wpAny_throw->qH,wpAny_of_eq->qI,pyIter->qJ,notedBy->qX,leaving->qY,joinParts->qZ,Keyword->rh,wpAny_onRaise->ue,wpAny_handled->uf,field->uh,findBy->uv,call_meets->uw,IsPair->uA,wpAny_pyIter_slot->vQ,valueAt->vR,evalEach->vS,callerA->vT,backToKw->vU,BindsTo->vY,wpAny_execs_cons->xW,updateSeq->xX,newExc->xY,getMethod->xZ,wpAny_letGo->zQ,subscripted->zR,wpAny_updateSeq->Aj,theTreesLotGoes->Ak,Within->Ap,getItem->Ck,wpAny_newFunctionEnv_cells->DK,wpAny_loadPart->DL,wpAny_bindName->DM,newTuple->DN,compPost->DP,bindName->DS,atKey->DT,Paired->DW,IsZip->Eb,evalArgs_none->FI,swappedStores->FT,call->FX,IsItemIterOut->Gd,wpAny_list_append_plain->Kh,wpAny_Call_method0_late->Ki,bindL->Kj,bindC->Kk,CmpOp->Ku,wpAny_pyNext_list_item->KF,standAt->KH,seqIndex_neg->KI,newList->KJ,isTrue->KM,codeAny_loop->KO,codeAny_compStart_list->KQ,IsEnum->Lp,wpAny_notOrdered_dict->Ni,wpAny_isTrue_Compare1->Nj,wpAny_isOneOf_keyiter->Nk,codeAny_call_function->Nm,wpAny_updateSeq_pair->Od,wpAny_noted->Oe,unpackItems->Og,unbindBehindTheSuite->Oh,seqIndex_of->Oi,raiseNew->Oj,GenState->Ou,wpAny_load->RI,wpAny_entryPlaceOf->RJ,wpAny_Name->RK,entryOfKey->RL,wpAny_pyIter_enum->Ug,wpAny_frameOf_fun->Uh,wpAny_assign_Name->Ui,wpAny_Call_method->Uj,collect->Um,wpAny_pyIter_zip->UI,wpAny_getItem_of->UJ,wpAny_Dict_empty->UK,onTheHeap->UM,newFields->UN,IsEnumOut->UW
open List renaming length_map->d8,mem_cons_self->f7,mem_cons_of_mem->g0,mem_append_right->i9,getElem?_eq_getElem->j4,length_cons->n5,mem_of_getElem?->r0,map_cons->t8,map_append->v9,getElem?_map->w6,length_append->y9,size_toArray->A2,length_take->B0,not_mem_nil->B7,take_of_length_le->C0,mem_cons->C7,mem_of_mem_take->D6,take_add_one->D8,getD_eq_getElem?_getD->E5,mem_append_left->E9,lookup_cons->G6,length_drop->J5,take_length->M6,mem_of_mem_drop->N0,range->P0,getElem?_set_ne->P1,getElem?_drop->P2,append_nil->P4,map_map->R8,getElem?_take->S5,toArray->U3,drop_eq_nil_of_le->U4,append_assoc->U5,take_append_drop->V8,sum_cons->X0,drop_zero->X4,filterMap_cons->Y8,all_map->Z3,getElem_mem->af,getElem?_eq_none->au,length_nil->aF,zip_cons_cons->bF,getElem?_set_self->bG,forIn_cons->bP,any_cons->bS,perm_append_comm->cg,replicate->cG,nodup_cons->dD,find?_cons->dE,lookup->dW,length_range->fb,forIn_nil->fe,ext_getElem?->fg,getLast_mem->fP,dropLast_concat_getLast->hJ,reverse_append->ij,getElem?_append_right->jf,foldl->jg,mem_of_find?_eq_some->jB,getElem?_append_left->jC,all_cons->kc,countP_cons->kE,all_eq_true->kF,length_pos_of_mem->lF,find?_cons_of_pos->lG,find?_cons_of_neg->lH,of_mem_zip->lW,nil_append->lX,length_set->lY,foldl_cons->lZ,length->nz,drop_drop->nA,contains_eq_mem->nD,length_zipWith->oP,map_singleton->qg,pairwise_map->rf,map_nil->rg,zipIdx_cons->ui,map_snd_zip->uj,cons_append->uk,drop_append_of_le_length->uz,take_take->xN,drop_eq_getElem_cons->yc,getElem?_zipWith->DZ,cons_lt_cons_iff->Ea,reverse_reverse->FN,map_id->FO,getElem_toArray->FP,map_congr_left->Gb,getElem?_range->Gc,find?_eq_none->Ko,filter_append->Kq,take_sublist->Lg,getElem_map->Nq,getElem_inj->Nr,ext_getElem->Nt,zipIdx_nil->Oq,range_succ->Os,count_cons->Ot,nodup_nil->Rp,any_map->Uu,mem_singleton->ZZ,mem_map->ZY,mem_append->ZX,getElem?_eq_some_iff->ZW,mem_iff_getElem?->ZV,mem_range->ZT,forall_mem_cons->ZS,mem_filter->ZR,pairwise_append->ZM,any_eq_true->ZJ,mem_filterMap->ZI,pairwise_iff_getElem->ZH,mem_flatMap->ZG,contains_iff_mem->ZF,count_eq_zero->ZD
open PySem.Heap renaming get?_push_of_some->f6,lt_size->i5,get?_push_size->j7,size_push->D7,get?_update_other->E2,SameBut->F5,get?_update_self->K2,get?_none_of_le->cH,ExtBut->gB,size_after_update->lI,size_update->uq,IsTuple->Uw
open Nat renaming le_refl->i4,le_trans->j9,ne_of_lt->y7,zero_le->A6,lt_of_lt_of_le->B5,ne_of_gt->D2,pow_le_pow_right->G4,lt_succ_of_lt->M8,mul_le_mul->N7,lt_of_le_of_lt->P3,lt_succ_self->T5,lt_irrefl->U0,zero_add->U9,mul_le_mul_left->V0,pow_add->X7,le_succ->ae,le_of_lt->aJ,mul_add->bE,pos_of_ne_zero->dU,pow_lt_pow_right->gG,log2_lt->gH,min_eq_left->ig,not_lt_of_le->kH,le_add_right->kJ,mul_ne_zero->mn,mul_pos->nU,eq_zero_or_pos->qL,sub_zero->rK,pow_succ->DX,le_of_eq->DY,one_mul->FY,not_succ_le_self->FZ,add_le_add_right->Ga,add_le_add_left->Kn,lt_succ_of_le->Np,le_of_not_lt->Oo,strongRecOn->Rm,max_eq_left->Rn,le_add_left->Ro,mul_assoc->Ut,sub_self->UR,mul_comm->US,lt_trans->UT,lt_or_ge->UU,gcd_comm->UV,not_lt->ZK
open PyProof.Rows renaming wpS_bind->j5,wpS_pure->r9,Keyed->y6,join_cons_cons->E3,boot_isinstance->K1,wpS_forRange->K5,SortSt->K7,wpS_modify->K8,mirror->O5,seqObj->Y2,boot_tuple->Z6,wpS_mono->ai,join_one->aE,wpS_get->aG,pendingOf->aQ,envOfC->bo,callWith_type1->bp,IntsAre->bH,failedOf->cC,boot_str->dc,arrOf->de,SortKind->dh,wpS_lift->iL,AllBare->lJ,split_weight->nK,get?_update_seq->oO,joinParts_cons->qK,listUpdate_at->ug,assignInOrder_cons->ux,seqEpoch_at->zS,boot_sum->DQ,subscriptTail->FU,subscriptTail_builtinR->KG,minRun'_succ->KL,formatField_int_small->Nl,FormattedValue_plain->Ov,getElem?_mirror_all->Rh,bubble->RM,Subscript_->RT,strOf->Uk,minRun'->Ul,assignInOrder_nil->Uo,IsTup->Uv,sortRuns'->UL
open PySem.W renaming Frag->m9,nsIn->J7,mg_none_of->N3,findIn->O6,mg_of->Y7,keepIn->aN,kia_one->cw,emptyDict->cR,fnOf->dB,kitOne->dR,codeIn->ic,instObj->jA,kas_sort->jD,codeHdIn->mD,specialIn->oQ,subIn->pZ,envX->rH,cellsFrom_some->vV,clsIn->zT,plainGet->Al,looks_findIn->Am,kitCls->Ao,plainGet_of->DU,takesIn->FD,makesIn->FE,kla_obj->FG,callWith_K->FV,KdxIt->FW,tabObj->KR,methodObj->KS,lookIn->KW,hasDictIn->KY,kat_cons->Ol,isFn->Om,mroIn->Ri,excIn->Rj,Looks->Rk,takerIn->RN,kas_ask->RO,findObj->RP,OpenLaw->RQ,KeysLit->RS,kas_descPart->UP,InstAt->UQ
open PySem.Value renaming ref->r6,none->B4,bool->R9,isStrOf->W9,isStrOf_shape->aR,str->cI,builtin->df,type->iP,int->nv,float->DV,isInt->Ur,bytes->Us
open Array renaming length_toList->u9,toList_append->D3,getElem?_toList->G7,getElem?_eq_getElem->Q0,getElem?_setIfInBounds_self_of_lt->cq,toList_push->eJ,toList_reverse->gp,getElem?_eq_none->kK,getD->oW,append_assoc->oX,size_extract->Gi,find?_toList->Gj,size_append->Kw,toList->Sa,getElem?_eq_some_iff->ZU,perm_iff_toList_perm->ZQ,toList_inj->ZP
open Bool renaming false_ne_true->v8,and_eq_true->A4,false_eq_true->F8,true_and->T8,false_and->X5,not_eq_true'->aH,eq_iff_iff->bQ,not_true->ke,and_false->nF,or_false->oV,not_eq_false'->qh,false_or->Ab,true_or->Uy
open PyProof.Rows.SortSt renaming mk'->A8
open PySem.Txt renaming split->B1,join->C1,slice->O7,slice_le->rJ
open Or renaming inl->B6,inr->iu
open Sum renaming inr->B8,inl->cx
open PySem.Builtin.Str renaming occurrences->C9,strKind->X2,partsBetween->rL
open PySem.F renaming plainAttrs_str->E6,slot_dict_itemiterator_next->K4,plainAttrs_list->O1,type_str_join->Q4,slot_str_join->Q5,type_list_append->Q6,slot_list_append->Q7,slot_str_split->Y4,slot_dict_get->aa,args_dict_itemiterator_next_1->bj,plain_extend_loop->bw,entry_dict_itemiterator_next->bA,slot_dict_keyiterator_next->cn,slot_tuple_iterator_next->cV,plainAttrs_dict->du,entry_dict_get->dS,slot_enumerate_next->gD,args_str_split_2->ji,slot_dict_items->jE,entry_str_split->jF,type_str_split->kq,slot_str_index->kA,plain_list_iadd->kG,slot_zip_next->nE,args_dict_keyiterator_next_1->vW,type_dict_items->xJ,args_dict_get_3->xK,args_dict_get_2->xM,slot_dict_itemiterator_iter->xO,entry_dict_keyiterator_next->xP,type_str_index->ya,slot_str_count->yb,args_tuple_iterator_next_1->yg,type_dict_get->zX,entry_tuple_iterator_next->Aa,args_enumerate_next_1->FQ,slot_dict_items_iter->Gg,entry_enumerate_next->Gh,plain_proto_collect->Kr,entry_proto_collect->Ks,entry_extend_loop->Nu,entry_list_iadd->Rr,args_zip_next_1->Rt,slot_dict_iter->RY,entry_zip_next->RZ
open Option.some renaming inj->E8
open Ne renaming symm->G2
open False renaming elim->G3
open Int renaming le_trans->G8,toNat_natCast->M9,eq_ofNat_of_zero_le->O8,gcd->bh,lt_of_le_of_lt->bN,le_of_lt->bO,natCast_nonneg->dX,natAbs_natCast->dY,emod_lt_of_pos->dZ,le_refl->gI,emod_nonneg->ik,natCast_mul->mq,natAbs_mul->nV,mul_nonneg->yd,fdiv_eq_ediv_of_nonneg->ye,natAbs_of_nonneg->Ge,natCast_pow->Rq,not_lt->ZO,ofNat_le->ZN,ofNat_lt->ZE
open PySem.Builtin.SmallTypes renaming nextOf->J3,ownedTupleIsFree->M0,ownedTupleHandOut->V4
open PySem.Obj renaming mapFields->J4,data_mapFields->M3,mapSeq->S9,isFreed_of_fields->V9,cls_mapFields->jZ
open PySem.Builtin.Int renaming intBits->J6
open PySem.Str renaming ofString->K9,empty->aj,join->bR,mk->RU
open PySem.PassesOwn renaming never->M4
open PySem.Builtin.Dict_items renaming ownsTuple->M5,ownedTupleIsFree->W0,pairFromOwner->X9,ownedTupleFields->jk
open PySem.Heap.SameBut renaming update->N1,refl->yf
open PySem.PyData renaming str->T6,canLayAll0->aB,canLay0->cy,depthAll->gz,int->ir,eqvAll->nR,depth->qf,strOk->zY,eqv->FJ
open PySem.NameKind renaming free->Y5,cell->ft
open True renaming intro->ak
open ForInStep renaming yield->ao,done->Gf
open PySem.Around renaming under_plainId->aC,under->Ac,frames_deeper->Cp
open PySem.Builtin.List renaming listExtendWith->br,listSameRef->rj,listUpdate->rM
open PySem.Calls renaming callWith_builtin->bB,evalArgs_plain->gh,spliced_cons->iQ,Constant_str->oU,spliced_nil->qN,Name_function_global->vX,call_function_entry->xQ
open List.Perm renaming refl->bT
open PySem.AutoSeq1 renaming wpAny_loadPart'->cP
open List.Pairwise renaming nil->cU,imp_of_mem->qM,sublist->uo
open Option renaming map_some->dj,isSome_map->jj,map_eq_none_iff->zZ,map->FK,isSome_some->FM,getD_none->Kl,bind_some->Km,none->RX
open PySem.Builtin.Dict renaming showsAll->dG
open List.cons renaming inj->fh
open PySem.Shared renaming TypeIs->fF,heap->Cm
open PySem.Paired renaming length->fG,snoc->RW
open PySem.EntryCells renaming newEntry->fH
open PySem.SeqAt renaming shaped->ie,EqAt->oS
open PySem.StrLaws renaming occBody->kD,subAt_one->FH
open PySem.Spec renaming countIn->lD
open PySem.SeqAt.EqAt renaming int_int->mj,same->qc,bool_bool->xI,str_int->zU,int_str->zW
open PySem.Builtin.ObjectAttr renaming bindTo->mE
open Rat renaming mkRat_def->qe,mul_le_mul_of_nonneg_right->uy,mul_nonneg->RV
open PySem.Heap.DictOf renaming new->Cn
open PySem.Code renaming isFrame->Co,frames->UX
open PySem.DictEntry renaming key->Kt
open StateT renaming run_pure->KZ
open Sum.inr renaming inj->Rl
open PySem.W.WShape renaming has->Uq
open PySem.CmpOp renaming NotIn->Ux
open PySem.Walks renaming list->UO
def ZC:=@if_neg
def ZB:=@if_pos
def ZA:=@decide_eq_true
def Zz:=@decide_eq_false
def Zy:=@absurd
def Zx:=@of_decide_eq_true
def Zw:=@decide_eq_false_iff_not
def Zv:=@decide_eq_true_iff
def Zu:=@congrArg
def Zt:=@Option.map_eq_some_iff
def Zs:=@beq_iff_eq
def Zr:=@beq_eq_false_iff_ne
def Zq:=@if_false
def Zp:=@Int.not_lt
def Zo:=@Option.isSome_iff_exists
local macro_rules|`(tactic|decide)=>`(tactic|decide+kernel)
set_option Elab.async false
set_option linter.all false
set_option maxRecDepth 100000
namespace L2
open PySem PySem.Spec PyProof.Rows
abbrev O0:=Sum Int Str
def tF:O0->b9->Bool
 | .inl k,v=>Ur k v
 | .inr x,v=>W9 x v
def keyH (w:w5):O0->Int
 | .inl k=>hashInt k
 | .inr x=>hashStr w x
theorem az:∀{k:O0}{v:b9},tF k v=true->(∃i t,k=cx i/\v=nv i t) ∨ (∃x t,k=B8 x/\v=cI x t)
 | .inl i,v,h=>by
  obtain⟨t,e⟩:=Value.isInt_shape (k:=i) (v:=v) h;exact .inl ⟨i,t,rfl,e⟩
 | .inr x,v,h=>by obtain⟨t,e⟩:=aR (x:=x) (v:=v) h;exact .inr ⟨x,t,rfl,e⟩
def ER (i:Int) (t:Tok):tF (.inl i) (.int i t)=true:=by simp[tF,Ur]
def EO (x:Str) (t:Tok):tF (.inr x) (.str x t)=true:=by simp[tF,W9]
def Qv (a b:Int):decide ((cx a:O0)=cx b)=(a == b):=by
 by_cases e:a=b
 .subst e;simp
 .have h:¬ (cx a:O0)=cx b:=λq=>e (Sum.inl.inj q);rw[Zz h];exact(Zr.mpr e).symm
def Qs (a b:Str):decide ((B8 a:O0)=B8 b)=decide (a=b):=by
 by_cases e:a=b
 .subst e;simp
 .have h:¬ (B8 a:O0)=B8 b:=λq=>e (Rl q);rw[Zz h,Zz e]
def Qu (a:Int) (b:Str):decide ((cx a:O0)=B8 b)=false:=Zz (λq=>nomatch q)
def Qt (a:Str) (b:Int):decide ((B8 a:O0)=cx b)=false:=Zz (λq=>nomatch q)
def P9 (prog:j0) (w:w5):PySem.KeyKind prog w O0 where
 is:=tF
 hash:=keyH w
 inj:=λv a b f d=>by
  obtain⟨i,t,rfl,rfl⟩|⟨x,t,rfl,rfl⟩:=az f
  .rcases az d with ⟨j,u,rfl,e⟩|⟨y,u,rfl,e⟩
   .injection e with e1 _;rw[e1]
   .exact nomatch e
  .rcases az d with ⟨j,u,rfl,e⟩|⟨y,u,rfl,e⟩
   .exact nomatch e
   .injection e with e1 _;rw[e1]
 byValue:=λk v h=>by rcases az h with ⟨i,t,rfl,rfl⟩|⟨x,t,rfl,rfl⟩ <;> rfl
 pyHash:=λc h=>by
  obtain⟨i,t,rfl,rfl⟩|⟨x,t,rfl,rfl⟩:=az c
  .exact wpAny_pyHash_int h
  .exact wpAny_pyHash_str h
 eqBool:=λg c h=>by
  obtain⟨i,t,rfl,rfl⟩|⟨x,t,rfl,rfl⟩:=az g
  .rcases az c with ⟨j,u,rfl,rfl⟩|⟨y,u,rfl,rfl⟩
   .rw[Qv] at h;exact wpAny_eqBool_int h
   .rw[Qu] at h;exact zW i t y u _ _ _ _ h
  .rcases az c with ⟨j,u,rfl,rfl⟩|⟨y,u,rfl,rfl⟩
   .rw[Qt] at h;exact zU x t j u _ _ _ _ h
   .rw[Qs] at h;exact wpAny_eqBool_str h
 «strs»:=λk x t v h=>by
  obtain⟨i,u,rfl,e⟩|⟨y,u,rfl,e⟩:=az h
  .exact nomatch e
  .injection e with e1 _
   subst e1;cases v <;> rfl
def yV (prog:j0) (w:w5) (i:Int) (t:Tok):(P9 prog w).is (.inl i) (.int i t)=true:=ER i t
def yU (prog:j0) (w:w5) (x:Str) (t:Tok):(P9 prog w).is (.inr x) (.str x t)=true:=EO x t
inductive V where
 | non|bl (b:Bool)|int (i:Int)|str (x:Str)|byt (b:Array UInt8)|flt (b:UInt64)|ref (a:Addr)|ty (n:String)
 deriving DecidableEq
def K3:V->b9->Prop
 | .non,u=>u=B4
 | .bl b,u=>u=R9 b
 | .int i,u=>∃t,u=nv i t
 | .str x,u=>∃t,u=cI x t
 | .byt b,u=>∃t,u=Us b t
 | .flt b,u=>∃t,u=DV b t
 | .ref a,u=>u=r6 a
 | .ty n,u=>u=iP n
abbrev J9:List V->List b9->Prop:=DW K3
theorem J9.length(r:J9 xs us):xs.length=us.length:=fG r
theorem J9.get:∀{xs:List V}{us:List b9}{i:Nat}{x:V},J9 xs us->xs[i]?=some x->∃u,us[i]?=some u/\K3 x u
 | _,_,_,_,.nil,e=>by simp at e
 | _,_,0,_,.cons r _,e=>by simp at e;subst e;exact⟨_,rfl,r⟩
 | _,_,i+1,x,.cons _ t,e=>by obtain⟨u,a,b⟩:=J9.get (i:=i) (x:=x) t (by simpa using e);exact⟨u,by simpa using a,b⟩
theorem J9.set {x:V}{u:b9} (r:K3 x u):∀{xs:List V}{us:List b9} (i:Nat),J9 xs us->J9 (xs.set i x) (us.set i u)
 | _,_,_,.nil=>.nil
 | _,_,0,.cons _ t=>.cons r t
 | _,_,i+1,.cons q t=>.cons q (J9.set r i t)
theorem J9.append:∀{xs ys:List V}{us ws:List b9},J9 xs us->J9 ys ws->J9 (xs++ys) (us++ws)
 | _,_,_,_,.nil,s=>s
 | _,_,_,_,.cons r t,s=>.cons r (J9.append t s)
theorem J9.take:∀{xs:List V}{us:List b9} (n:Nat),J9 xs us->J9 (xs.take n) (us.take n)
 | _,_,0,_=>.nil
 | _,_,_+1,.nil=>.nil
 | _,_,n+1,.cons r t=>.cons r (J9.take n t)
theorem J9.drop:∀{xs:List V}{us:List b9} (n:Nat),J9 xs us->J9 (xs.drop n) (us.drop n)
 | _,_,0,r=>r
 | _,_,_+1,.nil=>.nil
 | _,_,n+1,.cons _ t=>J9.drop n t
def kC:Option V->Option b9->Prop
 | some v,some u=>K3 v u
 | none,none=>True
 | _,_=>False
def KV {a:Type}:List (a × V)->List (a × b9)->Prop:=DW λ(p:a × V) (q:a × b9)=>p.1=q.1/\K3 p.2 q.2
def kV:O0->V
 | .inl i=>.int i
 | .inr x=>.str x
inductive HO where
 | lst (xs:List V)
 | tup (xs:List V)
 | dK (kvs:List (O0 × V))|dT (kvs:List (List O0 × V))
 | set (S:Int->Bool) (n:Nat)
 | ins (C dx:Addr) (fs:List (Str × V))
 | own (x:Addr)
 | xd (fs:List (Str × V))
 | met (f x:Addr)
 | rng (lo hi:Int)
 | frz (o:Obj) (u:HO)
 | tbl (ps:Array b9)
 | ext (φ:Heap->Prop)
abbrev Hp:=Addr->Option HO
def C3 (H:Hp) (a:Addr) (o:HO):Hp:=λb=>if b=a then some o else H b
variable {H:Hp}
def j3:C3 H a o a=some o:=by unfold C3;rw[ZB rfl]
variable {b:Addr}
def t9(h:b≠a):C3 H a o b=H b:=by unfold C3;rw[ZC h]
def jt(h:H a=some o) (h':H b=some u) (d:o≠u):a≠b:=by intro e;subst e;rw[h] at h';exact d (E8 h')
def A5(h:H a=some o) (h':H b=none):a≠b:=by intro e;subst e;rw[h] at h';cases h'
section
variable (P:j0) (w:w5)
def NoDc (h:Heap) (a:Addr):Prop:=∃o,h.get? a=some o/\o.dict=none
def O4 (H:Hp) (h:Heap) (a:Addr):HO->Prop
 | .lst e=>e.length<=j6/\∃(c:List b9) (n:Nat),J9 e c/\h.get? a=some { cls:=.type "list",data:=.seq c.toArray n }
 | .tup e=>(e.length<=j6/\NoDc h a)/\∃c:List b9,J9 e c/\Uv h a c.toArray
 | .dK d=>d.length<=j6/\(a == R4)=false/\∃k,KV d k/\h.DictOf (P9 P w) a k
 | .dT d=>d.length<=j6/\(a == R4)=false/\∃e:List (List O0 × Addr × b9),
   DW (λ(p:List O0 × V) (q:List O0 × Addr × b9)=>p.1=q.1/\H q.2.1=some (.tup (p.1.map kV))/\K3 p.2 q.2.2) d e /\
   ∃o l s,h.get? a=some o/\o.ExactDict/\o.data=.dict l s/\l.toList=e.map (RL (dw (P9 P w)))/\(e.map (·.1)).Nodup
 | .set S n=>h.SetOf (intKind P w) a S n
 | .ins C i fs=>H i=some (.own a)/\fs.length<=1000/\i≠a/\h.get? a=some (jA C i) /\
   ∃g,h.Ns1 i g/\(∀f,kC (fs.lookup f) (g f))/\Ap g (fs.map (·.1))
 | .own _=>∃o,h.get? a=some o
 | .xd fs=>∃g,h.Ns1 a g/\∀f,kC (fs.lookup f) (g f)
 | .rng lo y=>∃t u v,h.get? a=some { cls:=.type "range",data:=.fields #[.int lo t,.int y u,.int 1 v] }
 | .frz o u=>h.get? a=some o/\O4 H h a u
 | .tbl z=>h.get? a=some { cls:=.none,data:=.fields z }
 | .met f x=>h.get? a=some (KS (.ref f) (.ref x))
 | .ext j=>j h/\(∃o,h.get? a=some o)/\∀m r:Heap,j m->(∀o,m.get? a=some o->r.get? a=some o)->j r
def dQ (H:Hp) (h:Heap):Prop:=∀a o,H a=some o->O4 P w H h a o
end
section
variable {a:Addr}
theorem O4.lt (x:O4 P w H h a o):a<h.objs.size:=by
 cases o with
 | lst d=>obtain⟨_,_,_,_,e⟩:=x;exact i5 e
 | tup d=>obtain⟨_,_,_,p⟩:=x;exact p.lt
 | dK c=>obtain⟨_,_,_,_,o,_,_,e,_⟩:=x;exact i5 e
 | dT c=>obtain⟨_,_,_,_,o,_,_,e,_⟩:=x;exact i5 e
 | set S n=>obtain⟨o,_,_,_,e,_⟩:=x;exact i5 e
 | ins C g fs=>obtain⟨_,_,_,e,_⟩:=x;exact i5 e
 | own y=>obtain⟨_,e⟩:=x;exact i5 e
 | xd fs=>obtain⟨_,⟨_,_,_,e,_⟩,_⟩:=x;exact i5 e
 | rng lo i=>obtain⟨_,_,_,e⟩:=x;exact i5 e
 | frz ob u=>obtain⟨e,_⟩:=x;exact i5 e
 | tbl j=>exact i5 (show h.get? a=some _ from x)
 | met f y=>exact i5 (show h.get? a=some _ from x)
 | ext k=>obtain⟨_,⟨_,e⟩,_⟩:=x;exact i5 e
theorem Paired.mapP {e g:Type}{F G:e->g->Prop}:∀{c:List e}{d:List g},DW F c d->(∀a b,F a b->G a b)->DW G c d
 | _,_,.nil,_=>.nil
 | _,_,.cons r t,f=>.cons (f _ _ r) (Paired.mapP t f)
def O4.stay (x:O4 P w H h a o) (k:∀b u,(b=a ∨ H b=some (.own a))->h.get? b=some u->h'.get? b=some u)
  (D:∀b,H b=some (.own a)->H' b=some (.own a)) (E:∀b l,H b=some (.tup l)->H' b=some (.tup l)):O4 P w H' h' a o:=by
 induction o with
 | lst l=>obtain⟨z,j,n,r,e⟩:=x;exact⟨z,j,n,r,k _ _ (.inl rfl) e⟩
 | tup l=>obtain⟨⟨z,I,J,K⟩,j,r,ob,e,c⟩:=x;exact⟨⟨z,I,k _ _ (.inl rfl) J,K⟩,j,r,ob,k _ _ (.inl rfl) e,c⟩
 | dK m=>obtain⟨z,y,L,r,ob,g,i,e,c⟩:=x;exact⟨z,y,L,r,ob,g,i,k _ _ (.inl rfl) e,c⟩
 | dT m =>
  obtain⟨z,y,l,r,ob,g,i,e,c⟩:=x;exact⟨z,y,l,Paired.mapP r λp q z=>⟨z.1,E _ _ z.2.1,z.2.2⟩,ob,g,i,k _ _ (.inl rfl) e,c⟩
 | set S n=>obtain⟨ob,g,i,t,e,c⟩:=x;exact⟨ob,g,i,t,k _ _ (.inl rfl) e,c⟩
 | ins C N fs =>
  obtain⟨d,z,ne,e,s,⟨A,g,i,e2,c⟩,r⟩:=x;exact⟨D _ d,z,ne,k _ _ (.inl rfl) e,s,⟨A,g,i,k _ _ (.inr d) e2,c⟩,r⟩
 | own y=>obtain⟨ob,e⟩:=x;exact⟨ob,k _ _ (.inl rfl) e⟩
 | xd fs=>obtain⟨s,⟨A,g,i,e,c⟩,r⟩:=x;exact⟨s,⟨A,g,i,k _ _ (.inl rfl) e,c⟩,r⟩
 | rng lo O=>obtain⟨t,u,v,e⟩:=x;exact⟨t,u,v,k _ _ (.inl rfl) e⟩
 | frz ob u M=>obtain⟨e,q⟩:=x;exact⟨k _ _ (.inl rfl) e,M q⟩
 | tbl B =>
  have e:h.get? a=some { cls:=.none,data:=.fields B }:=x;show h'.get? a=some { cls:=.none,data:=.fields B };exact k a _ (.inl rfl) e
 | met f y =>
  have e:h.get? a=some (KS (.ref f) (.ref y)):=x;show h'.get? a=some (KS (.ref f) (.ref y));exact k a _ (.inl rfl) e
 | ext Q=>obtain⟨p,⟨o,e⟩,st⟩:=x;exact⟨st _ _ p λo q=>k _ _ (.inl rfl) q,⟨o,k _ _ (.inl rfl) e⟩,st⟩
theorem dQ.lt (x:dQ P w H h) (e:H a=some o):a<h.objs.size:=(x a o e).lt
def dQ.fresh (x:dQ P w H h) (e:h.objs.size<=a):H a=none:=by
 cases q:H a with
 | none=>rfl
 | some u=>exact Zy (B5 (x.lt q) e) (U0 _)
def dQ.kept (x:dQ P w H h) (k:∀b u,h.get? b=some u->h'.get? b=some u):dQ P w H h':=λa o e =>
 (x a o e).stay (λb u _ q=>k b u q) (λ_ q=>q) λ_ _ q=>q
def dQ.laid (x:dQ P w H h) (k:∀b u,h.get? b=some u->h'.get? b=some u) (g:h.objs.size<=a) (new:O4 P w (C3 H a o) h' a o):dQ P w (C3 H a o) h':=λb u e=>by
 have d:=x.fresh g;by_cases f:b=a
 .subst f;rw[j3] at e;cases e;exact new
 .rw[t9 f] at e;exact(x b u e).stay (λc v _ q=>k c v q) (λc q=>by rw[t9 (A5 q d)];exact q) λc i q=>by rw[t9 (A5 q d)];exact q
end
def Rd (H:Hp) (a:Addr) (u:HO):Prop:=H a=some u ∨ ∃o,H a=some (.frz o u)
variable {P:j0}{w:w5}{h:Heap}
def Rd.ok(r:Rd H a u) (x:dQ P w H h):O4 P w H h a u:=by
 obtain r|⟨o,r⟩:=r
 .exact x a u r
 .obtain⟨_,q⟩:=x a _ r;exact q
def TX:Option HO->Prop
 | some (.lst _)=>True
 | some (.dK _)=>True
 | some (.dT _)=>True
 | some (.set _ _)=>True
 | some (.ins _ _ _)=>True
 | some (.ext _)=>True
 | _=>False
def dQ.write (ok:dQ P w H h) (g:TX (H x)) (n:e=x ∨ H e=some (.own x)) (k:∀b u,b≠e->h.get? b=some u->h'.get? b=some u) (m:∃u,h'.get? e=some u)
  (new:O4 P w (C3 H x o') h' x o'):dQ P w (C3 H x o') h':=λb u q=>by
 have d:∀c y,H c=some (.own y)->c≠x:=λc y r z=>by subst z;rw[r] at g;exact g
 have f:∀c i,H c=some (.tup i)->c≠x:=λc i r z=>by subst z;rw[r] at g;exact g
 by_cases j:b=x
 .subst j;rw[j3] at q;cases q;exact new
 .rw[t9 j] at q;by_cases a:b=e
  .have o:H b=some (.own x):=by
    obtain z|z:=n
    .exact Zy (a.trans z) j
    .rw[a];exact z
   rw[q] at o;cases o;obtain⟨v,p⟩:=m;exact⟨v,by rw[a];exact p⟩
  .refine (ok b u q).stay (λc v l r=>k c v ?_ r) (λc r=>by rw[t9 (d c b r)];exact r) λc i r=>by rw[t9 (f c i r)];exact r
   obtain rfl|l:=l
   .exact a
   .rintro rfl;obtain z|z:=n
    .exact d c b l z
    .rw[l] at z;cases z;exact j rfl
structure Un (fs ex:List Addr) (H H':Hp) (h h':Heap):Prop where
 keep:∀b o,h.get? b=some o->H b=none->b ∉ fs->b ∉ ex->h'.get? b=some o
 slot:∀b o,h.get? b=some o->H b=none->b∈fs->b ∉ ex->∃sl,h'.get? b=some { o with slots:=sl }
 free:∀b o,h.get? b=some o->H b=none->b ∉ ex->H' b=none
 there:∀b o,h.get? b=some o->b ∉ ex->∃o',h'.get? b=some o'
 tups:∀b xs,H b=some (.tup xs)->H' b=some (.tup xs)
 frzs:∀b o u,H b=some (.frz o u)->H' b=some (.frz o u)
 tbls:∀b ps,H b=some (.tbl ps)->∃more,H' b=some (.tbl (ps++more))
section
variable {a x e:Addr}
def Un.any(u:Un fs ex H H1 h h1)  (q:h.get? b=some ob) (n:H b=none) (c:b ∉ ex):∃sl,h1.get? b=some { ob with slots:=sl }:=by
 by_cases d:b∈fs
 .exact u.slot b ob q n d c
 .exact⟨ob.slots,u.keep b ob q n d c⟩
def Un.kept (k:∀b u,h.get? b=some u->h'.get? b=some u):Un fs ex H H h h' :=
 ⟨λb ob q _ _ _=>k b ob q,λb ob q _ _ _=>⟨ob.slots,k b ob q⟩,λ_ _ _ n _=>n,λb ob q _=>⟨ob,k b ob q⟩,λ_ _ q=>q,λ_ _ _ q=>q,λ_ c q=>⟨#[],by rw[q];simp⟩⟩
def Un.refl:Un fs ex H H h h:=Un.kept λ_ _ q=>q
def Un.laid (k:∀b u,h.get? b=some u->h'.get? b=some u) (d:h.objs.size<=a) (c:H a=none):Un fs ex H (C3 H a o) h h' where
 keep:=λb u q _ _ _=>k b u q
 slot:=λb u q _ _ _=>⟨u.slots,k b u q⟩
 free:=λb u q n _=>by rw[t9 (y7 (B5 (i5 q) d))];exact n
 there:=λb u q _=>⟨u,k b u q⟩
 tups:=λb f q=>by rw[t9 (A5 q c)];exact q
 frzs:=λb u f q=>by rw[t9 (A5 q c)];exact q
 tbls:=λb g q=>⟨#[],by rw[t9 (A5 q c),q];simp⟩
def Un.write (d:TX (H x)) (l:e=x ∨ H e=some (.own x)) (k:∀b u,b≠e->h.get? b=some u->h'.get? b=some u) (f:∃u,h'.get? e=some u):Un fs ex H (C3 H x o) h h':=by
 have i:∀b,H b=none->b≠x:=λb n z=>by subst z;rw[n] at d;exact d
 have j:∀b,H b=none->b≠e:=λb n z=>by
  subst z;obtain r|r:=l
  .exact i b n r
  .rw[n] at r;cases r
 have g:∀b u,H b=some u->¬ TX (some u)->b≠x:=λb u q m z=>by subst z;rw[q] at d;exact m d
 refine⟨λb u q n _ _=>k b u (j b n) q,λb u q n _ _=>⟨u.slots,k b u (j b n) q⟩,λb u q n _=>by rw[t9 (i b n)];exact n,λb u q _=>?_,
  λb p q=>by rw[t9 (g b _ q λz=>z)];exact q,λb u p q=>by rw[t9 (g b _ q λz=>z)];exact q,λb s q=>⟨#[],by rw[t9 (g b _ q λz=>z),q];simp⟩⟩
 by_cases c:b=e
 .subst c;exact f
 .exact⟨u,k b u c q⟩
end
def Uz (h:Heap) (H:Hp):List Addr:=(P0 h.objs.size).filter λa=>(H a).isSome
def uJ (h:Heap) (H:Hp):Heap:=W.hideAll h (Uz h H)
def EV (h:Heap) (H:Hp):(uJ h H).objs.size=h.objs.size:=W.hideAll_size _ _
def JA(e:h.get? b=some o) (n:H b=none):(uJ h H).get? b=some o :=
 W.hideAll_get _ e λa=>by have q:(H b).isSome=true:=(ZR.mp a).2;rw[n] at q;simp at q
def Mf(e:(uJ h H).get? b=some o):h.get? b=some o/\H b=none:=by
 have a:h.get? b=some o:=W.of_hideAll (Uz h H) e;refine⟨a,?_⟩;cases q:H b with
 | none=>rfl
 | some x =>
  have c:b∈Uz h H:=ZR.mpr ⟨ZT.mpr (i5 a),by simp[q]⟩;have z:(uJ h H).get? b=none:=W.hideAll_none (Uz h H) c;rw[z] at e;cases e
def Nc (g h:Heap) (L:Addr):List (Addr × Obj):=(P0 h.objs.size).filterMap λa=>if a=L ∨ (g.get? a).isSome=true then none else (h.get? a).map λo=>(a,o)
def aW (g h:Heap) (L d:Addr):List (Addr × Obj):=(Nc g h L).filter λp=>decide (p.1≠d)
structure Mod (K:m9) (mg:Str->Option b9) (base:Heap):Prop where
 kin:K.In base
 glob:base.Ns A1 mg
 blt:∃mb,base.Ns nQ mb/\∀x:Str,x≠"__name__"->mb x=aV x
 nolimit:base.NoLimit
structure Cx where
 prog:j0
 w:w5
 K:m9
 mg:Str->Option b9
 base:Heap
 A:A3
 N:List Str
 s₀:d9
 H₀:Hp
 env:Env
 outer:List Env
 stack:List Env
 ex:List Addr
 fn:Str->Bool
 calm:Bool
 pn:List (Addr × Obj)
 xe:b9->d9->Prop
def fR (l:List Env):List Addr:=l.filterMap (·.frame)
abbrev Cx.fs (X:Cx):List Addr:=fR X.outer
def TN (sc:O9) (x:Str):Prop:=sc.names.lookup x=some .local ∨ sc.names.lookup x=some .cell ∨ sc.names.lookup x=some .free
def TY (sc:O9) (x:Str):Prop:=sc.names.lookup x=some .local ∨ sc.names.lookup x=some .cell
def Look (env:Env) (h:Heap) (m:Str->Option b9) (x:Str) (u:b9):Prop :=
 (env.kindOf x=some .local/\m x=some u) ∨ ((env.kindOf x=some .cell ∨ env.kindOf x=some .free)/\∃c,env.cells.lookup x=some c/\h.IsCell c (some u))
structure Cx.Ok (X:Cx):Prop where
 mod:Mod X.K X.mg X.base
 kind:X.env.scope.kind=.function
 glob:X.env.globals=A1
 blt:X.env.builtins=nQ
 above:X.s₀.heap.objs.size<=X.env.locals
 inj:∀x y c,X.env.cells.lookup x=some c->X.env.cells.lookup y=some c->x=y
 has:∀x,(X.env.kindOf x=some .cell ∨ X.env.kindOf x=some .free)->∃c,X.env.cells.lookup x=some c
 cab:∀x c,X.fn x=true->X.env.cells.lookup x=some c->X.s₀.heap.objs.size<=c
 hd:X.calm=true->X.A.handled=none
 frames:X.A.frames=some X.stack
 stk:X.stack=X.outer ∨ (X.stack=X.env::X.outer/\X.env.frame=some X.env.locals)
 exf:∀b∈X.ex,b≠X.env.locals/\∀x c,X.env.cells.lookup x=some c->c≠b
 bs:∀b o,X.base.get? b=some o->X.s₀.heap.get? b=some o/\X.H₀ b=none
 bsz:X.base.objs.size<=X.s₀.heap.objs.size
 noex:∀b o,X.base.get? b=some o->b ∉ X.ex
 exfs:∀b∈X.ex,b ∉ X.fs
 funs:X.s₀.heap.FunFrames X.base X.outer
 frf:∀b∈X.fs,X.H₀ b=none
structure D1 (X:Cx) (pins:List (Addr × Obj)) (σ:List (Option V)) (H:Hp) (s:d9):Prop where
 ok:X.Ok
 os:s.os=X.s₀.os
 bare:lJ s.gens
 base:Un X.fs X.ex X.H₀ H X.s₀.heap s.heap
 loc:∃m,s.heap.Ns X.env.locals m/\∀(i:Nat) (x:Str) (v:V),X.N[i]?=some x->σ[i]?=some (some v)->TN X.env.scope x->∃u,K3 v u/\Look X.env s.heap m x u
 cell:∀x c,X.env.cells.lookup x=some c->∃v,s.heap.IsCell c v
 free:H X.env.locals=none
 freeC:∀x c,X.env.cells.lookup x=some c->H c=none
 pin:∀p∈X.pn++pins,s.heap.get? p.1=some p.2/\H p.1=none/\p.1≠X.env.locals/\p.1 ∉ X.fs/\∀v,p.2.data≠.cell v
 hok:dQ X.prog X.w H s.heap
 len:σ.length=X.N.length
section
variable {X:Cx}
def Cx.Ok.nofr(ok:X.Ok)  (e:X.base.get? b=some o):b ∉ X.fs:=λa=>by have:=(ok.funs.mem a).1;rw[e] at this;cases this
theorem D1.bs (I:D1 X pins σ H s):∀b o,X.base.get? b=some o->s.heap.get? b=some o/\H b=none:=λb o e =>
 ⟨I.base.keep b o (I.ok.bs b o e).1 (I.ok.bs b o e).2 (I.ok.nofr e) (I.ok.noex b o e),I.base.free b o (I.ok.bs b o e).1 (I.ok.bs b o e).2 (I.ok.noex b o e)⟩
def D1.bk (I:D1 X pins σ H s):∀b o,X.base.get? b=some o->s.heap.get? b=some o:=λb o e=>(I.bs b o e).1
theorem D1.mod (I:D1 X pins σ H s):Mod X.K X.mg X.base:=I.ok.mod
def D1.kIn (I:D1 X pins σ H s):X.K.In s.heap:=I.ok.mod.kin.keeps I.bk
theorem D1.nolimit (I:D1 X pins σ H s):s.heap.NoLimit:=I.ok.mod.nolimit.keeps I.bk
theorem D1.lt (I:D1 X pins σ H s):X.env.locals<s.heap.objs.size:=let ⟨_,a,_⟩:=I.loc;a.lt
def D1.sz (I:D1 X pins σ H s):X.s₀.heap.objs.size<=s.heap.objs.size:=j9 I.ok.above (aJ I.lt)
def D1.nofs (I:D1 X pins σ H s) {a:Addr} (h:s.heap.objs.size<=a):a ∉ X.fs:=λc=>by obtain⟨_,o,d,_⟩:=I.ok.funs.mem c;exact Zy (B5 (i5 d) (j9 I.sz h)) (U0 _)
def D1.cne (I:D1 X pins σ H s):∀x c,X.env.cells.lookup x=some c->c≠X.env.locals:=λx c e z=>by obtain⟨v,o,f,g⟩:=I.cell x c e;obtain⟨m,⟨i,j,k,a,d,_⟩,_⟩:=I.loc;rw[z,a] at f;cases f;rw[d] at g;cases g
theorem D1.funs (I:D1 X pins σ H s):s.heap.FunFrames X.base X.outer:=by
 have all:∀(l:List Env),(∀b∈fR l,b∈X.fs)->X.s₀.heap.FunFrames X.base l->s.heap.FunFrames X.base l:=by
  intro l;induction l with
  | nil=>intro _ _;trivial
  | cons g r i =>
   intro f j;obtain⟨k,⟨L,o,a,m,n,p⟩,q⟩:=j;have c:L∈X.fs:=f L (by unfold fR;rw[Y8,a];exact f7);obtain⟨sl,e⟩:=I.base.slot L o n (I.ok.frf L c) c λz=>I.ok.exfs L z c;exact⟨k,⟨L,_,a,m,e,p⟩,i (λb d=>f b (by unfold fR;rw[Y8,a];exact g0 _ d)) q⟩
 exact all X.outer (λ_ d=>d) I.ok.funs
theorem D1.stack (I:D1 X pins σ H s):s.heap.FunFrames X.base X.stack:=by
 obtain e|⟨e,a⟩:=I.ok.stk
 .rw[e];exact I.funs
 .rw[e];obtain⟨m,c,_⟩:=I.loc;refine .cons (by rw[I.ok.kind];decide) a c ?_ I.funs;exact cH (j9 I.ok.bsz I.ok.above)
def D1.stkSub (I:D1 X pins σ H s):∀b∈fR X.stack,b∈X.env.locals::X.fs:=λb a=>by
 obtain e|⟨e,c⟩:=I.ok.stk
 .rw[e] at a;exact g0 _ a
 .rw[e] at a;unfold fR at a;rw[Y8,c] at a;exact a
def D1.stkFree (I:D1 X pins σ H s):∀b∈fR X.stack,H b=none:=λb a=>by
 obtain e|a:=C7.mp (I.stkSub b a)
 .rw[e];exact I.free
 .obtain⟨_,o,c,_⟩:=I.ok.funs.mem a;exact I.base.free b o c (I.ok.frf b a) λz=>I.ok.exfs b z a
variable {ch:List Addr}
def D1.step(I:D1 X pins σ H s)
  (f:∀b∈ch,(b∈X.ex ∨ X.s₀.heap.objs.size<=b)/\b≠X.env.locals/\(∀x c,X.env.cells.lookup x=some c->c≠b)/\∀p∈X.pn++pins,p.1≠b)
  (keep:∀b o,b≠X.env.locals->b ∉ X.fs->b ∉ ch->s.heap.get? b=some o->H b=none->h'.get? b=some o)
  (y:∀b o,b≠X.env.locals->b∈X.fs->b ∉ ch->s.heap.get? b=some o->H b=none->∃sl,h'.get? b=some { o with slots:=sl }) (free:∀b o,b ∉ ch->s.heap.get? b=some o->H b=none->H' b=none)
  (there:∀b o,b ∉ ch->s.heap.get? b=some o->∃D,h'.get? b=some D)
  (E:∀b A,H b=some (.tup A)->H' b=some (.tup A)) (J:∀b o u,H b=some (.frz o u)->H' b=some (.frz o u)) (K:∀b L,H b=some (.tbl L)->∃more,H' b=some (.tbl (L++more)))
  (ns:∀m,s.heap.Ns X.env.locals m->h'.Ns X.env.locals m) (M:dQ X.prog X.w H' h') (T:lJ g'):
  D1 X pins σ H' { s with heap:=h',gens:=g',drawn:=d',toks:=t' }:=by
 have neL:∀b o,X.s₀.heap.get? b=some o->b≠X.env.locals:=λb o e=>y7 (B5 (i5 e) I.ok.above);have t:∀b o,X.s₀.heap.get? b=some o->b ∉ X.ex->b ∉ ch:=λb o e a B=>by
  obtain z|z:=(f b B).1
  .exact a z
  .exact Zy (B5 (i5 e) z) (U0 _)
 have g:∀x c,X.env.cells.lookup x=some c->∀v,s.heap.IsCell c v->h'.IsCell c v:=λx c e v ⟨o,C,N⟩=>by
  have j:c ∉ ch:=λz=>(f c z).2.2.1 x c e rfl;by_cases Q:c∈X.fs
  .obtain⟨sl,q⟩:=y c o (I.cne x c e) Q j C (I.freeC x c e);exact⟨_,q,N⟩
  .exact⟨o,keep c o (I.cne x c e) Q j C (I.freeC x c e),N⟩
 refine⟨I.ok,I.os,T,⟨λb o e n B a=>?_,λb o e n B a=>?_,λb o e n a=>?_,λb o e a=>?_,λb A e=>E b A (I.base.tups b A e),λb o A e=>J b o A (I.base.frzs b o A e),λb L e=>?_⟩,?_,λx c e=>?_,?_,λx c e=>?_,λp R=>?_,M,I.len⟩
 .exact keep b o (neL b o e) B (t b o e a) (I.base.keep b o e n B a) (I.base.free b o e n a)
 .obtain⟨sl,e1⟩:=I.base.slot b o e n B a;obtain⟨O,e2⟩:=y b _ (neL b o e) B (t b o e a) e1 (I.base.free b o e n a);exact⟨O,e2⟩
 .obtain⟨D,e1⟩:=I.base.there b o e a;exact free b D (t b o e a) e1 (I.base.free b o e n a)
 .obtain⟨D,e1⟩:=I.base.there b o e a;exact there b D (t b o e a) e1
 .obtain⟨m1,e1⟩:=I.base.tbls b L e;obtain⟨m2,e2⟩:=K b _ e1;exact⟨m1++m2,by rw[e2,oX]⟩
 .obtain⟨m,U,V⟩:=I.loc;refine⟨m,ns m U,λi x v e1 e2 e3=>?_⟩;obtain⟨u,r,l⟩:=V i x v e1 e2 e3;refine⟨u,r,?_⟩;obtain l|⟨k,c,e,z⟩:=l
  .exact .inl l
  .exact .inr ⟨k,c,e,g x c e _ z⟩
 .obtain⟨v,z⟩:=I.cell x c e;exact⟨v,g x c e v z⟩
 .obtain⟨m,⟨o,_,_,C,_⟩,_⟩:=I.loc;exact free _ o (λz=>(f _ z).2.1 rfl) C I.free
 .obtain⟨v,o,C,N⟩:=I.cell x c e;exact free c o (λz=>(f c z).2.2.1 x c e rfl) C (I.freeC x c e)
 .obtain⟨e,n,ne,S,d⟩:=I.pin p R;have j:p.1 ∉ ch:=λz=>(f p.1 z).2.2.2 p R rfl;exact⟨keep p.1 p.2 ne S j e n,free p.1 p.2 j e n,ne,S,d⟩
def D1.un (I:D1 X pins σ H s) (u:Un X.fs [] H H' s.heap h') (c:dQ X.prog X.w H' h'):D1 X pins σ H' { s with heap:=h',toks:=t' }:=by obtain⟨m,⟨o,p,q,i,r⟩,_⟩:=id I.loc;obtain⟨sl,j⟩:=u.any i I.free (by simp);exact I.step (g':=s.gens) (d':=s.drawn) (ch:=[]) (λ_ z=>nomatch z) (λb o _ d _ e n=>u.keep b o e n d (by simp)) (λb o _ d _ e n=>u.slot b o e n d (by simp)) (λb o _ e n=>u.free b o e n (by simp)) (λb o _ e=>u.there b o e (by simp)) u.tups u.frzs u.tbls (λt k=>by obtain⟨v,f,g,a,l⟩:=k;rw[i] at a;cases a;exact⟨_,f,g,j,l⟩) c I.bare
def D1.call(I:D1 X pins σ H s) (u:Un (fR X.stack) ch H H' s.heap h') (g:dQ X.prog X.w H' h') (q:lJ g')
  (d:∀b∈ch,(b∈X.ex ∨ X.s₀.heap.objs.size<=b)/\b≠X.env.locals/\(∀x c,X.env.cells.lookup x=some c->c≠b)/\∀p∈X.pn++pins,p.1≠b):
  D1 X pins σ H' { s with heap:=h',gens:=g',drawn:=d',toks:=t' }:=by
 obtain⟨m,⟨o,A,B,l,r⟩,_⟩:=id I.loc;obtain⟨sl,i⟩:=u.any l I.free λz=>(d _ z).2.1 rfl;exact I.step (ch:=ch) d (λb o i t a e n=>u.keep b o e n (λz=>(C7.mp (I.stkSub b z)).elim i t) a) (λb o _ _ a e n=>u.any e n a) (λb o a e n=>u.free b o e n a) (λb o a e=>u.there b o e a) u.tups u.frzs u.tbls (λC v=>by obtain⟨D,j,k,f,y⟩:=v;rw[l] at f;cases f;exact⟨_,j,k,i,y⟩) g q
def D1.turned(I:D1 X pins σ H s) (k:∀b o,b≠it->s.heap.get? b=some o->h'.get? b=some o) (g:H it=none) (f:it≠X.env.locals)
  (i:it∈X.ex ∨ X.s₀.heap.objs.size<=it) (j:∀x c,X.env.cells.lookup x=some c->c≠it) (l:∀p∈X.pn++pins,p.1≠it):D1 X pins σ H { s with heap:=h',toks:=t' }:=by
 have d:∀b u,H b=some u->b≠it:=λb u e z=>by rw[z,g] at e;cases e
 refine I.step (g':=s.gens) (d':=s.drawn) (ch:=[it]) (λb t=>?_) (λb o _ _ a e _=>k b o (λz=>a (by simp[z])) e) (λb o _ _ a e _=>⟨o.slots,k b o (λz=>a (by simp[z])) e⟩) (λ_ _ _ _ n=>n)
  (λb o a e=>⟨o,k b o (λz=>a (by simp[z])) e⟩) (λ_ _ e=>e) (λ_ _ _ e=>e) (λb D e=>⟨#[],by rw[e];simp⟩) (λm y=>?_) (λb u e=>?_) I.bare
 .have e:b=it:=by simpa using t
  subst e;exact⟨i,f,j,l⟩
 .obtain⟨o,A,B,C,r⟩:=y;exact⟨o,A,B,k _ o (G2 f) C,r⟩
 .refine (I.hok b u e).stay (λc v a q=>k c v ?_ q) (λ_ q=>q) λ_ _ q=>q;obtain z|z:=a
  .rw[z];exact d b u e
  .exact d c _ z
def D1.tok (I:D1 X pins σ H s) (t:Nat):D1 X pins σ H { s with toks:=t }:=I.un (h':=s.heap) (t':=t) Un.refl I.hok
theorem D1.kept(I:D1 X pins σ H s) (k:∀b u,s.heap.get? b=some u->h'.get? b=some u):D1 X pins σ H { s with heap:=h',toks:=t' }:=I.un (Un.kept k) (I.hok.kept k)
theorem D1.laid{a:Addr} (I:D1 X pins σ H s) (k:∀b u,s.heap.get? b=some u->h'.get? b=some u) (c:s.heap.objs.size<=a) (new:O4 X.prog X.w (C3 H a o) h' a o):
  D1 X pins σ (C3 H a o) { s with heap:=h',toks:=t' }:=I.un (Un.laid k c (I.hok.fresh c)) (I.hok.laid k c new)
theorem D1.write(I:D1 X pins σ H s) (c:TX (H x)) (d:e=x ∨ H e=some (.own x)) (k:∀b u,b≠e->s.heap.get? b=some u->h'.get? b=some u) (a:∃u,h'.get? e=some u)
  (new:O4 X.prog X.w (C3 H x o) h' x o):D1 X pins σ (C3 H x o) { s with heap:=h',toks:=t' }:=I.un (Un.write c d k a) (I.hok.write c d k a new)
def D1.weak(I:D1 X pins σ H s) (d:a.length=σ.length) (w:∀(i:Nat) v,a[i]?=some (some v)->σ[i]?=some (some v)):D1 X pins a H s :=
 ⟨I.ok,I.os,I.bare,I.base,let ⟨m,e,c⟩:=I.loc;⟨m,e,λi x v e1 e2 e3=>c i x v e1 (w i v e2) e3⟩,I.cell,I.free,I.freeC,I.pin,I.hok,d.trans I.len⟩
def D1.pins_of(I:D1 X pins σ H s) (h:∀p∈pins',s.heap.get? p.1=some p.2/\H p.1=none/\p.1≠X.env.locals/\p.1 ∉ X.fs/\∀v,p.2.data≠.cell v):D1 X pins' σ H s :=
 ⟨I.ok,I.os,I.bare,I.base,I.loc,I.cell,I.free,I.freeC,λp a=>(ZX.mp a).elim (λz=>I.pin p (E9 _ z)) (h p),I.hok,I.len⟩
variable {i:Nat}
def sM{N:List Str} (c:N.Nodup) (a:N[i]?=some x) (b:N[j]?=some x):i=j:=by obtain⟨d,e1⟩:=ZW.mp a;obtain⟨e,e2⟩:=ZW.mp b;exact(Nr c).mp (e1.trans e2.symm)
def vd(I:D1 X pins σ H s) (hN:X.N.Nodup) (N:X.N[i]?=some x) (t:TY X.env.scope x) (r:K3 v u)
  (h:∀s',D1 X pins (σ.set i (some v)) H s'->(∃a,F5 a s.heap s'.heap/\(a=X.env.locals ∨ X.env.cells.lookup x=some a))->Q () s') (hf:X.fn x=true ∨ X.env.scope.names.lookup x=some .local:=by first|exact .inl rfl|exact .inr rfl|assumption):j8 M A (storeName X.env x u) Q E s:=by
 obtain⟨m,hn,hl⟩:=id I.loc;have O:(X.env.scope.kind == .class || (X.env.scope.kind == .module&&X.env.locals != X.env.globals))=false:=by rw[I.ok.kind];rfl
 have C:i<σ.length:=by rw[I.len];exact(ZW.mp N).1
 have cne:=I.cne;have g:∀{a:Addr}{h':Heap},(∃o,s.heap.get? a=some o/\H a=none)->F5 a s.heap h'->dQ X.prog X.w H h':=λ{a h'} ha f b ob e=>by
  obtain⟨_,_,B⟩:=ha;refine (I.hok b ob e).stay (λc Y l q=>(f.2 c ?_).trans q) (λ_ q=>q) λ_ _ q=>q;rintro rfl;obtain rfl|l:=l
  .rw[B] at e;cases e
  .rw[B] at l;cases l
 obtain D|D:=t
 .refine wpAny_storeName_local D hn (λh' a0 f=>?_) O;obtain⟨oL,_,_,a1,_⟩:=id hn;refine h _ ⟨I.ok,I.os,I.bare,⟨λb o e n J t=>?_,λb o e n J t=>?_,I.base.free,λb o e t=>?_,I.base.tups,I.base.frzs,I.base.tbls⟩,⟨_,a0,λj y v' e1 e2 e3=>?_⟩,λy c e=>?_,I.free,I.freeC,λp hp=>?_,g ⟨oL,a1,I.free⟩ f,by simpa using I.len⟩ ⟨_,f,.inl rfl⟩
  .exact(f.2 b (y7 (B5 (i5 e) I.ok.above))).trans (I.base.keep b o e n J t)
  .obtain⟨sl,e1⟩:=I.base.slot b o e n J t;exact⟨sl,(f.2 b (y7 (B5 (i5 e) I.ok.above))).trans e1⟩
  .obtain⟨o',e1⟩:=I.base.there b o e t;exact⟨o',(f.2 b (y7 (B5 (i5 e) I.ok.above))).trans e1⟩
  .by_cases K:j=i
   .subst K;rw[N] at e1;cases e1;rw[bG C] at e2;cases e2;exact⟨u,r,.inl ⟨D,by simp⟩⟩
   .rw[P1 (G2 K)] at e2;obtain⟨u',r',q⟩:=hl j y v' e1 e2 e3;refine⟨u',r',?_⟩;obtain⟨k,e⟩|⟨k,c,e,z⟩:=q
    .refine .inl ⟨k,?_⟩;have:y≠x:=λe=>K (sM hN e1 (e ▸ N));simp[this,e]
    .exact .inr ⟨k,c,e,z.sameBut f (cne y c e)⟩
  .obtain⟨Y,z⟩:=I.cell y c e;exact⟨Y,z.sameBut f (cne y c e)⟩
  .obtain⟨e,n,ne,nf,d⟩:=I.pin p hp;exact⟨(f.2 p.1 ne).trans e,n,ne,nf,d⟩
 .have L:X.fn x=true:=by
   obtain z|z:=hf
   .exact z
   .rw[z] at D;cases D
  obtain⟨c,l⟩:=I.ok.has x (.inl D);obtain⟨Y,z⟩:=I.cell x c l;refine wpAny_storeName_cell I.ok.kind D l z (λh' R f=>?_);obtain⟨oc,S,T⟩:=id z;refine h { s with heap:=h' } ⟨I.ok,I.os,I.bare,⟨λb o e n J t=>?_,λb o e n J t=>?_,I.base.free,λb o e t=>?_,I.base.tups,I.base.frzs,I.base.tbls⟩,⟨m,hn.sameBut f (G2 (cne x c l)),λj y v' e1 e2 e3=>?_⟩,λy Z e=>?_,I.free,I.freeC,λp hp=>?_,g ⟨oc,S,I.freeC x c l⟩ f,by simpa using I.len⟩ ⟨c,f,.inr l⟩
  .exact(f.2 b (y7 (B5 (i5 e) (I.ok.cab x c L l)))).trans (I.base.keep b o e n J t)
  .obtain⟨sl,e1⟩:=I.base.slot b o e n J t;exact⟨sl,(f.2 b (y7 (B5 (i5 e) (I.ok.cab x c L l)))).trans e1⟩
  .obtain⟨o',e1⟩:=I.base.there b o e t;exact⟨o',(f.2 b (y7 (B5 (i5 e) (I.ok.cab x c L l)))).trans e1⟩
  .by_cases K:j=i
   .subst K;rw[N] at e1;cases e1;rw[bG C] at e2;cases e2;exact⟨u,r,.inr ⟨.inl D,c,l,R⟩⟩
   .rw[P1 (G2 K)] at e2;obtain⟨u',r',q⟩:=hl j y v' e1 e2 e3;refine⟨u',r',?_⟩;obtain q|⟨k,Z,e,z'⟩:=q
    .exact .inl q
    .refine .inr ⟨k,Z,e,z'.sameBut f ?_⟩;rintro rfl;exact K (sM hN e1 (I.ok.inj _ _ _ e l ▸ N))
  .by_cases U:Z=c
   .subst U;exact⟨_,R⟩
   .obtain⟨w2,z2⟩:=I.cell y Z e;exact⟨w2,z2.sameBut f U⟩
  .obtain⟨e,n,ne,nf,d⟩:=I.pin p hp;refine⟨(f.2 p.1 ?_).trans e,n,ne,nf,d⟩;intro q;rw[q,S] at e;have q':oc=p.2:=E8 e;exact d Y (by rw[<- q'];exact T)
def jn(I:D1 X pins σ H s) (c:X.N.Nodup) (d:X.N[i]?=some x) (e:TY X.env.scope x) (r:K3 v u)
  (h:∀a,D1 X pins (σ.set i (some v)) H a->Q () a) (f:X.fn x=true ∨ X.env.scope.names.lookup x=some .local:=by first|exact .inl rfl|exact .inr rfl|assumption):j8 M A (storeName X.env x u) Q E s :=
 vd I c d e r (λa g _=>h a g) f
def D1.call'(I:D1 X pins σ H s) (f:s'.os=s.os) (u:Un (fR X.stack) ch H H' s.heap s'.heap) (a:dQ X.prog X.w H' s'.heap) (g:lJ s'.gens)
  (d:∀b∈ch,(b∈X.ex ∨ X.s₀.heap.objs.size<=b)/\b≠X.env.locals/\(∀x c,X.env.cells.lookup x=some c->c≠b)/\∀p∈X.pn++pins,p.1≠b):D1 X pins σ H' s':=by
 obtain⟨h',j,k,t',l⟩:=s';have e:l=s.os:=f;subst e;exact I.call (g':=j) (t':=t') (d':=k) u a g d
end
abbrev XK:=b9->Option Addr->Hp->Prop
abbrev St:=List (Option V)
abbrev VK:=V->Hp->Prop
abbrev TE:=St->Hp->VK->Prop
abbrev TT:=St->Hp->(Bool->Hp->Prop)->Prop
abbrev TA:=St->Hp->(List V->Hp->Prop)->Prop
structure oK where
 nx:St->Hp->Prop
 rt:VK
 bk:St->Hp->Prop:=λ_ _=>False
 ct:St->Hp->Prop:=λ_ _=>False
abbrev TS:=oK->St->Hp->Prop
def EP (X:Cx) (a:List (Addr × Obj)) (d:St) (Q:VK) (u:b9) (s':d9):Prop:=∃v c,D1 X a d c s'/\K3 v u/\Q v c
def TP (X:Cx) (a:List (Addr × Obj)) (d:St) (Q:Bool->Hp->Prop) (b:Bool) (s':d9):Prop:=∃c,D1 X a d c s'/\Q b c
def AP (X:Cx) (a:List (Addr × Obj)) (e:St) (Q:List V->Hp->Prop) (us:List b9) (s':d9):Prop:=∃c d,D1 X a e d s'/\J9 c us/\Q c d
def SP (X:Cx) (c:List (Addr × Obj)) (D:oK) (f:Flow) (s':d9):Prop :=
 match f with
 | .next=>∃a d,D1 X c a d s'/\D.nx a d
 | .brk=>∃a d,D1 X c a d s'/\D.bk a d
 | .cont=>∃a d,D1 X c a d s'/\D.ct a d
 | .ret u=>∃v a d,D1 X c a d s'/\K3 v u/\D.rt v d
def PE (X:Cx) (e:Expr) (t:TE):Prop :=
 ∀(a:List (Addr × Obj)) (s:d9) (c:St) (H:Hp) (Q:VK),D1 X a c H s->t c H Q->j8 (n6 X.prog X.w) X.A (eval e X.env) (EP X a c Q) X.xe s
def PT (X:Cx) (e:Expr) (t:TT):Prop :=
 ∀(a:List (Addr × Obj)) (s:d9) (c:St) (H:Hp) (Q:Bool->Hp->Prop),D1 X a c H s->t c H Q->j8 (n6 X.prog X.w) X.A (KM e X.env (eval e X.env)) (TP X a c Q) X.xe s
def PW (X:Cx) (e:Expr) (t:TT):Prop :=
 ∀(c:Sem b9) (a:List (Addr × Obj)) (s:d9) (d:St) (H:Hp) (Q:Bool->Hp->Prop),D1 X a d H s->t d H Q->j8 (n6 X.prog X.w) X.A (KM e X.env c) (TP X a d Q) X.xe s
variable {X:Cx}
def PW.pt(h:PW X e t):PT X e t:=h _
def PA (X:Cx) (es:List Expr) (t:TA):Prop :=
 ∀(c:Pos) (a:List (Addr × Obj)) (s:d9) (d:St) (H:Hp) (Q:List V->Hp->Prop),D1 X a d H s->t d H Q->j8 (n6 X.prog X.w) X.A (spliced (Z7 c (B9 es X.env))) (AP X a d Q) X.xe s
def PS (X:Cx) (st:Stmt) (t:TS):Prop :=
 ∀(a:List (Addr × Obj)) (s:d9) (c:St) (H:Hp) (D:oK),D1 X a c H s->t D c H->j8 (n6 X.prog X.w) X.A (exec st X.env) (SP X a D) X.xe s
def ur (X:Cx) (st:List Stmt) (t:TS):Prop :=
 ∀(a:List (Addr × Obj)) (s:d9) (c:St) (H:Hp) (D:oK),D1 X a c H s->t D c H->j8 (n6 X.prog X.w) X.A (execs st X.env) (SP X a D) X.xe s
variable {A:A3}{E:b9->d9->Prop}
def S6{Q d:c->d9->Prop} (h:j8 M A t Q E s) (e:∀a s,Q a s->d a s):j8 M A t d E s:=C4 h e λ_ _ x=>x
section
variable {X:Cx}
def rR (i:Nat):TE:=λa H Q=>∃v,a[i]?=some (some v)/\Q v H
def tC (v:V):TE:=λ_ H Q=>Q v H
def Bl{pos:Pos} (k:X.N[i]?=some x) (n:TN X.env.scope x) (hd:(x == ("__debug__":Str))=false:=by decide) (g:(x == ("__classdict__":Str))=false:=by decide):PE X (.Name x pos) (rR i):=by
 intro f s o H Q I h;obtain⟨v,e,h⟩:=h;obtain⟨m,p,q⟩:=I.loc;obtain⟨u,r,l⟩:=q i x v k e n;have fin:EP X f o Q u s:=⟨v,H,I,r,h⟩
 obtain⟨d,t⟩|⟨d,c,j,a⟩:=l
 .exact RK (wpAny_loadName_local I.ok.kind d p t fin) hd
 .rcases d with d|d
  .exact RK (wpAny_loadName_cell I.ok.kind d j a fin) hd
  .exact RK (wpAny_loadName_free I.ok.kind d j a fin g) hd
def A7:PE X (.Constant (.int i) j pos) (tC (.int i)):=λ_ _ _ H _ I h=>wpAny_Constant_int ⟨.int i,H,I.tok _,⟨_,rfl⟩,h⟩
def fQ {b j pos}:PE X (.Constant (.bool b) j pos) (tC (.bl b)):=λ_ _ _ H _ I h=>Constant_bool ⟨.bl b,H,I,rfl,h⟩
def wU:PE X (.Constant .none j pos) (tC .non):=λ_ _ _ H _ I h=>Constant_none ⟨.non,H,I,rfl,h⟩
def n9:PE X (.Constant (.str x) j pos) (tC (.str x)):=λ_ _ _ H _ I h=>oU ⟨.str x,H,I.tok _,⟨_,rfl⟩,h⟩
def Gl (X:Cx) (x:Str):Prop:=X.env.kindOf x=some .globalImplicit
def lP{c:St} (I:D1 X a c H s) (d:Gl X x) (e:X.mg x=some u) (h:Q u s)
  (hd:(x == ("__debug__":Str))=false:=by decide):j8 (n6 X.prog X.w) X.A (eval (.Name x pos) X.env) Q E s :=
 vX I.ok.kind d (Calls.loadGlobal_global (by rw[I.ok.glob];exact I.mod.glob.keeps I.bk) e h) hd
def pP{c:St}{pos:Pos} (I:D1 X a c H s) (d:Gl X x) (e:X.mg x=none) (f:aV x=some u) (h:Q u s)
  (g:x≠"__name__":=by decide) (hd:(x == ("__debug__":Str))=false:=by decide):j8 (n6 X.prog X.w) X.A (eval (.Name x pos) X.env) Q E s:=by
 obtain⟨k,i,j⟩:=I.mod.blt;exact vX I.ok.kind d (Calls.loadGlobal_builtin (by rw[I.ok.glob];exact I.mod.glob.keeps I.bk) e (by rw[I.ok.blt];exact i.keeps I.bk) ((j x g).trans f) h) hd
def Q8(a:Gl X x) (c:X.mg x=some u) (r:K3 v u) (hd:(x == ("__debug__":Str))=false:=by decide):PE X (.Name x pos) (tC v):=
 λ_ _ _ H _ I h=>lP I a c ⟨v,H,I,r,h⟩ hd
def LU{pos:Pos} (a:Gl X x) (c:X.mg x=none) (d:aV x=some u) (r:K3 v u) (e:x≠"__name__":=by decide) (hd:(x == ("__debug__":Str))=false:=by decide):PE X (.Name x pos) (tC v):=
 λ_ _ _ H _ I h=>pP I a c d ⟨v,H,I,r,h⟩ e hd
variable {a b:Expr}
def PC (X:Cx) (op:Ku) (a b:Expr) (t:TE):Prop :=
 ∀(c:List (Addr × Obj)) (s:d9) (f:St) (H:Hp) (Q:VK),D1 X c f H s->t f H Q ->
  j8 (n6 X.prog X.w) X.A (eval a X.env) (λv d=>j8 (n6 X.prog X.w) X.A (eval b X.env) (λu e=>j8 (n6 X.prog X.w) X.A (P7 op v u) (EP X c f Q) X.xe e) X.xe d) X.xe s
def IV(b:Expr)  (h:op≠.In) (c:op≠.NotIn):eG op b=false:=by
 have e1:(op == CmpOp.In)=false:=by cases op <;> first|rfl|exact Zy rfl h
 have e2:(op == Ux)=false:=by cases op <;> first|rfl|exact Zy rfl c
 cases b <;> simp[eG,e1,e2]
def tIsN (ta:TE):TE:=λc H Q=>ta c H λx d=>Q (.bl (decide (x=.non))) d
def K3.none_iff{x:V} (r:K3 x v):(v == B4)=decide (x=.non):=by
 cases x with
 | non=>cases r;rfl
 | bl _=>cases r;rfl
 | int _=>obtain⟨t,rfl⟩:=r;rfl
 | str _=>obtain⟨t,rfl⟩:=r;rfl
 | byt _=>obtain⟨t,rfl⟩:=r;rfl
 | flt _=>obtain⟨t,rfl⟩:=r;rfl
 | ref _=>cases r;rfl
 | ty _=>cases r;rfl
def PN(d:PE X a ta):PC X .Is a (.Constant .none j pos') (tIsN ta):=by intro c s e H Q I h;refine S6 (d c s e H _ I h) λv l ⟨x,f,g,i,k⟩=>?_;exact Constant_none (is_none_gen ⟨.bl _,f,g,by rw[i.none_iff];rfl,k⟩)
def tB (t:TE):TT:=λd H Q=>t d H λx e=>∃c,x=.bl c/\Q c e
def Bh(h:PC X op a b t) (f:eG op b=false:=by first|exact IV _ (by decide) (by decide)|rfl):PT X (.Compare a [op] [b] pos) (tB t):=by intro e s g H Q I i;refine Nj (S6 (h e s g H _ I i) λv o f=>S6 f λu p j=>S6 j λc r ⟨x,k,l,m,n⟩=>?_) f;obtain⟨d,rfl,q⟩:=n;cases m;exact V6 ⟨k,l,q⟩
def eO(h:PE X e t) (g:∀c,KM e X.env c=(do let v <- c;KH e.pos;nN [v] (truthy v)):=by intro _;rfl):PT X e (tB t):=by intro f s i H Q I j;refine isTrue_plain (S6 (h f s i H _ I j) λv o ⟨x,k,l,m,n⟩=>?_) (g _);obtain⟨d,rfl,q⟩:=n;cases m;exact V6 ⟨k,l,q⟩
variable {aW:List Expr}
def tAnd (t u:TT):TT:=λd H Q=>t d H λc e=>if c=true then u d e Q else Q false e
def tOr (t u:TT):TT:=λd H Q=>t d H λc e=>if c=true then Q true e else u d e Q
def tNot (t:TT):TT:=λd H Q=>t d H λc e=>Q (!c) e
def LI (f:PT X a tA):PW X (.BoolOp .And [a] pos) tA:=by
 intro i d s g H Q I h;refine isTrue_and (S6 (f d s g H Q I h) λc j e=>?_);cases c with
 | true=>exact isTrue_and_nil e
 | false=>exact e
def pF (f:PT X a tA):PW X (.BoolOp .Or [a] pos) tA:=by
 intro i d s g H Q I h;refine isTrue_or (S6 (f d s g H Q I h) λc j e=>?_);cases c with
 | false=>exact isTrue_or_nil e
 | true=>exact e
def PB (j:PT X a tA) (k:PW X (.BoolOp .And (b::aW) pos) tB'):PW X (.BoolOp .And (a::b::aW) pos) (tAnd tA tB'):=by
 intro l d s e H Q I h;refine isTrue_and (S6 (j d s e H _ I h) λc m ⟨f,g,i⟩=>?_);cases c with
 | true=>exact k l d m e f Q g i
 | false=>exact⟨f,g,i⟩
def vj (j:PT X a tA) (k:PW X (.BoolOp .Or (b::aW) pos) tB'):PW X (.BoolOp .Or (a::b::aW) pos) (tOr tA tB'):=by
 intro l d s e H Q I h;refine isTrue_or (S6 (j d s e H _ I h) λc m ⟨f,g,i⟩=>?_);cases c with
 | true=>exact⟨f,g,i⟩
 | false=>exact k l d m e f Q g i
def eP (e:PT X a tA):PT X (.UnaryOp .Not a pos) (tNot tA):=by intro d s f H Q I h;exact isTrue_not (e d s f H (λc g=>Q (!c) g) I h)
def Sr (ta tb:TE):TE:=λd H Q=>ta d H λx e=>∃c,x=.bl c/\if c=true then tb d e Q else Q (.bl false) e
def Si (ta:TE):TE:=λd H Q=>ta d H λx e=>∃c,x=.bl c/\Q (.bl (!c)) e
def sH(h:PE X a t):PE X (.BoolOp op [a] pos) t:=λc s d H Q I e=>BoolOp_one (h c s d H Q I e)
def sJ (j:PE X a ta) (k:PE X (.BoolOp .And (b::aW) pos) tb):PE X (.BoolOp .And (a::b::aW) pos) (Sr ta tb):=by
 intro d s f H Q I h;refine BoolOp_and (S6 (j d s f H _ I h) λv l ⟨x,g,i,m,e⟩=>?_);obtain⟨c,rfl,e⟩:=e;cases m;refine V6 ?_;cases c with
 | true=>exact k d l f g Q i e
 | false=>exact⟨.bl false,g,i,rfl,e⟩
def PH (f:PE X a ta):PE X (.UnaryOp .Not a pos) (Si ta):=by intro d s g H Q I h;refine UnaryOp_ (S6 (f d s g H _ I h) λv l ⟨x,i,j,k,e⟩=>?_);obtain⟨c,rfl,e⟩:=e;cases k;exact not_of (V6 ⟨.bl (!c),i,j,rfl,e⟩)
def tIf (t:TT) (ta tb:TE):TE:=λd H Q=>t d H λc e=>if c=true then ta d e Q else tb d e Q
def yM(l:PT X c tA) (m:PE X a ta) (n:PE X b tb):PE X (.IfExp c a b pos) (tIf tA ta tb):=by
 intro e s f H Q I h;refine wpAny_IfExp (S6 (l e s f H _ I h) λd g ⟨i,j,k⟩=>?_);cases d with
 | true=>exact m e g f i Q j k
 | false=>exact n e g f i Q j k
end
def jc (K:m9) (H:Hp) (a:Addr) (xs:List V):Prop :=
 Rd H a (.lst xs) ∨
  ∃(o:Obj) (c:Array b9) (n:Nat),K.lookup a=some o/\o.cls=.type "list"/\o.dict=none/\o.data=.seq c n/\c.size<=j6/\J9 xs c.toList
def jb (K:m9) (H:Hp) (a:Addr) (xs:List V):Prop :=
 Rd H a (.tup xs) ∨
  ∃(o:Obj) (c:Array b9) (n:Nat),K.lookup a=some o/\o.cls=.type "tuple"/\o.data=.seq c n/\c.size<=j6/\J9 xs c.toList
def absV:b9->Option V
 | .none=>some .non
 | .bool b=>some (.bl b)
 | .int i _=>some (.int i)
 | .str x _=>some (.str x)
 | .bytes b _=>some (.byt b)
 | .float b _=>some (.flt b)
 | .ref a=>some (.ref a)
 | .type n=>some (.ty n)
 | _=>none
variable {u:b9}
def K3.abs(r:K3 x u):absV u=some x:=by
 cases x with
 | non=>cases r;rfl
 | bl _=>cases r;rfl
 | int _=>obtain⟨t,rfl⟩:=r;rfl
 | str _=>obtain⟨t,rfl⟩:=r;rfl
 | byt _=>obtain⟨t,rfl⟩:=r;rfl
 | flt _=>obtain⟨t,rfl⟩:=r;rfl
 | ref _=>cases r;rfl
 | ty _=>cases r;rfl
def K3.inj(r:K3 x u) (q:K3 y u):x=y:=E8 (r.abs.symm.trans q.abs)
theorem J9.inj:∀{xs ys:List V}{us:List b9},J9 xs us->J9 ys us->xs=ys
 | _,_,_,.nil,.nil=>rfl
 | _,_,_,.cons r t,.cons a c=>by rw[r.inj a,J9.inj t c]
section
variable {σ:St}
def jc.of {K:m9} (h:H a=some (.lst xs)):jc K H a xs:=.inl (.inl h)
def jb.of {K:m9} (h:H a=some (.tup xs)):jb K H a xs:=.inl (.inl h)
def D1.list (I:D1 X pins σ H s) (h:jc X.K H a xs):∃c:List b9,J9 xs c/\PlainL s.heap a c.toArray/\xs.length<=j6:=by
 obtain h|⟨o,c,n,d,f,g,i,j,r⟩:=h
 .obtain⟨z,c,n,r,e⟩:=h.ok I.hok;exact⟨c,r,⟨_,n,e,rfl,rfl,rfl⟩,z⟩
 .refine⟨c.toList,r,⟨o,n,I.kIn a o d,f,g,by simpa using i⟩,?_⟩;have e:=r.length;simp only[u9] at e;lia
def D1.tuple (I:D1 X pins σ H s) (h:jb X.K H a xs):∃c:List b9,J9 xs c/\Uv s.heap a c.toArray/\xs.length<=j6:=by
 obtain h|⟨o,c,n,d,f,g,i,r⟩:=h
 .obtain⟨z,c,r,p⟩:=h.ok I.hok;exact⟨c,r,p,z.1⟩
 .refine⟨c.toList,r,⟨o,I.kIn a o d,f,n,by simpa using g⟩,?_⟩;have e:=r.length;simp only[u9] at e;lia
def D1.list_inj (I:D1 X pins σ H s) (h:jc X.K H a xs) (h':jc X.K H a ys):xs=ys:=by
 obtain⟨f,r,⟨o,n,e,_,_,d⟩,_⟩:=I.list h;obtain⟨c,j,⟨k,l,g,_,_,i⟩,_⟩:=I.list h';rw[e] at g;cases g;rw[d] at i;injection i with d1 _
 have:f=c:=by simpa using Zu Sa d1
 subst this;exact r.inj j
def D1.tuple_inj (I:D1 X pins σ H s) (h:jb X.K H a xs) (h':jb X.K H a ys):xs=ys:=by
 obtain⟨f,r,⟨o,e,_,n,d⟩,_⟩:=I.tuple h;obtain⟨c,j,⟨k,g,_,l,i⟩,_⟩:=I.tuple h';rw[e] at g;cases g;rw[d] at i;injection i with d1 _
 have:f=c:=by simpa using Zu Sa d1
 subst this;exact r.inj j
end
abbrev Cx.wish (X:Cx) (E:b9->d9->Prop):Cx:={ X with xe:=E }
abbrev Cx.nox (X:Cx):Cx:=X.wish λ_ _=>False
theorem Cx.Ok.wish(ok:X.Ok) (E:b9->d9->Prop):(X.wish E).Ok :=
 ⟨ok.mod,ok.kind,ok.glob,ok.blt,ok.above,ok.inj,ok.has,ok.cab,ok.hd,ok.frames,ok.stk,ok.exf,ok.bs,ok.bsz,ok.noex,ok.exfs,ok.funs,ok.frf⟩
def Cx.Ok.unwish (ok:(X.wish E).Ok):X.Ok :=
 ⟨ok.mod,ok.kind,ok.glob,ok.blt,ok.above,ok.inj,ok.has,ok.cab,ok.hd,ok.frames,ok.stk,ok.exf,ok.bs,ok.bsz,ok.noex,ok.exfs,ok.funs,ok.frf⟩
section
variable {σ:St}
theorem D1.wish (I:D1 X pins σ H s) (E:b9->d9->Prop):D1 (X.wish E) pins σ H s:=⟨I.ok.wish E,I.os,I.bare,I.base,I.loc,I.cell,I.free,I.freeC,I.pin,I.hok,I.len⟩
theorem D1.unwish (I:D1 (X.wish E) pins σ H s):D1 X pins σ H s:=⟨I.ok.unwish,I.os,I.bare,I.base,I.loc,I.cell,I.free,I.freeC,I.pin,I.hok,I.len⟩
theorem SP.unwish(h:SP (X.wish E) pins D f s'):SP X pins D f s':=by
 cases f with
 | next=>obtain⟨a,c,I,q⟩:=h;exact⟨a,c,I.unwish,q⟩
 | brk=>obtain⟨a,c,I,q⟩:=h;exact⟨a,c,I.unwish,q⟩
 | cont=>obtain⟨a,c,I,q⟩:=h;exact⟨a,c,I.unwish,q⟩
 | ret u=>obtain⟨v,a,c,I,r,q⟩:=h;exact⟨v,a,c,I.unwish,r,q⟩
theorem ur.nox{st:List Stmt} (h:ur X.nox st t):ur X st t:=λpins s σ H D I a =>
 C4 (h pins s σ H D (I.wish _) a) (λ_ _ q=>q.unwish) λ_ _ z=>G3 z
end
section
variable {X:Cx}{st:Stmt}{aW:List Stmt}{t u:TS}
def NB:TS:=λD a H=>D.nx a H
def pf (t u:TS):TS:=λD a H=>t { D with nx:=u D } a H
def G0:ur X [] NB:=λ_ _ a H _ I h=>eW ⟨a,H,I,h⟩
def m8 (d:PS X st t) (g:ur X aW u):ur X (st::aW) (pf t u):=by
 intro a s i H D I h;refine xW (S6 (d a s i H { D with nx:=u D } I h) λf j q=>?_);cases f with
 | next =>
  obtain⟨c,k,l,q⟩:=q;exact g a j c k D l q
 | ret v=>exact q
 | brk=>exact q
 | cont=>exact q
def u6 (c:PS X st t):ur X [st] t:=by
 intro a s d H D I h;refine xW (S6 (c a s d H D I h) λf g q=>?_);cases f with
 | next=>exact eW q
 | ret v=>exact q
 | brk=>exact q
 | cont=>exact q
def D1.quiet{c:St} (I:D1 X a c H s):interactive X.env=false:=by simp[interactive,I.ok.kind]
def NC (te:TE):TS:=λD a H=>te a H λ_ c=>D.nx a c
def aw (d:PE X e te) (hs:mz e none pos.line X.env=pure false:=by rfl):PS X (.Expr e pos) (NC te):=by intro a s c H D I h;exact wpAny_Expr_any (S6 (d a s c H _ I h) λv j ⟨x,f,g,k,i⟩=>⟨c,f,g,i⟩) I.quiet hs
def tRet (te:TE):TS:=λD a H=>te a H D.rt
def C8 (d:PE X e te):PS X (.Return (some e) pos) (tRet te):=by intro a s c H D I h;exact wpAny_Return_some (S6 (d a s c H _ I h) λv k ⟨x,f,g,i,j⟩=>⟨x,c,f,g,i,j⟩)
def tIfS (c:TT) (t u:TS):TS:=λD a H=>c a H λb d=>if b=true then t D a d else u D a d
def R3{a b:List Stmt} (m:PT X c tc) (n:ur X a t) (o:ur X b u):PS X (.If c a b pos) (tIfS tc t u):=by
 intro f s g H D I h;refine wpAny_If (S6 (m f s g H _ I h) λd i ⟨j,k,l⟩=>?_);cases d with
 | true=>exact n f i g j D k l
 | false=>exact o f i g j D k l
def OH:TS:=λ_ _ _=>False
def pG:ur X a OH:=λ_ _ _ _ _ _ h=>h.elim
end
abbrev TG:=V->St->Hp->(St->Hp->Prop)->Prop
abbrev NX:=List V->St->Hp->(St->Hp->Prop)->Prop
def PG (X:Cx) (a:Expr) (t:TG):Prop :=
 ∀(c:List (Addr × Obj)) (s:d9) (e:St) (H:Hp) (v:V) (u:b9) (Q:St->Hp->Prop),D1 X c e H s->K3 v u->t v e H Q ->
  j8 (n6 X.prog X.w) X.A (fY a X.env u) (λ_ g=>∃d f,D1 X c d f g/\Q d f) X.xe s
def TV (X:Cx) (ts:List Expr) (t:NX):Prop :=
 ∀(a:List (Addr × Obj)) (s:d9) (d:St) (H:Hp) (e:List V) (f:List b9) (Q:St->Hp->Prop),D1 X a d H s->J9 e f->t e d H Q ->
  j8 (n6 X.prog X.w) X.A (lV ((fq ts X.env).map (·.2)) f) (λ_ i=>∃c g,D1 X a c g i/\Q c g) X.xe s
abbrev QV:=V->V->V->Hp->(Hp->Prop)->Prop
def TR (X:Cx) (t:QV):Prop :=
 ∀(a:List (Addr × Obj)) (s:d9) (c:St) (H:Hp) (o i v:V) (d e u:b9) (Q:Hp->Prop),D1 X a c H s->K3 o d->K3 i e->K3 v u->t o i v H Q ->
  j8 (n6 X.prog X.w) X.A (setItem d e u) (λ_ g=>∃f,D1 X a c f g/\Q f) X.xe s
section
variable {X:Cx}{pos:Pos}
def V5 (i:Nat):TG:=λv a H Q=>Q (a.set i (some v)) H
def U6(c:X.N.Nodup) (d:X.N[i]?=some x) (e:TY X.env.scope x) (f:X.fn x=true ∨ X.env.scope.names.lookup x=some .local:=by first|exact .inl rfl|exact .inr rfl|assumption):PG X (.Name x pos) (V5 i):=by intro a s j H v u Q I r h;exact Ui (jn I c d e r (λk g=>⟨_,H,g,h⟩) f)
def JE:NX:=λa c H Q=>a=[]/\Q c H
def oB (t:TG) (u:NX):NX:=λc d H Q=>∃v r,c=v::r/\t v d H λa e=>u r a e Q
def iA:TV X [] JE:=by intro a s c H d f Q I r h;obtain⟨e,h⟩:=h;subst e;cases r;exact Uo ⟨c,H,I,h⟩
def X8{u:NX} (d:PG X e t) (f:TV X es u)
  (hs:(fq (e::es) X.env).map (·.2)=fY e X.env::(fq es X.env).map (·.2):=by rfl):TV X (e::es) (oB t u):=by
 intro a s g H n o Q I r h;obtain⟨v,p,e1,h⟩:=h;subst e1;cases r with
 | cons r i =>
  rw[hs];refine ux (S6 (d a s g H _ _ _ I r h) λ_ j ⟨c,k,l,m⟩=>?_);exact f a j c k _ _ Q l i m
def EX (K:m9) (n:Nat) (t:NX):TG:=λv d H Q=>∃a c,v=.ref a/\jb K H a c/\c.length=n/\t c d H Q
def sG{k:Nat} (j:X.calm=true) (h:TV X es t)
  (l:(fq es X.env).length=n:=by rfl) (d:(fq es X.env).findIdx? (·.1)=none:=by rfl):PG X (.Tuple es k pos) (EX X.K n t):=by
 intro c s g H v u Q I r f;obtain⟨a,m,e1,p,q,f⟩:=f;subst e1;cases r;obtain⟨x,i,y,D⟩:=I.tuple p;refine assign_Tuple_tuple (I.ok.hd j) y (by simp[l,<- q,i.length]) d λz B=>?_;have C:D1 X c g H { s with heap:=z }:=I.kept (t':=s.toks) λb o e=>B b o (y7 (i5 e)) e;exact h c _ g H m _ Q C (by simpa using i) f
def gSub (to c:TE) (t:QV):TG:=λv a H Q=>to a H λo d=>c a d λi e=>t o i v e λf=>Q a f
def Bk(g:PE X o to) (j:PE X i f) (hs:TR X t)
  (k:∀v,fY (.Subscript o i pos) X.env v=(do
   let c <- nN [v] (eval o X.env)
   let d <- nN [v,c] (eval i X.env)
   KH pos
   nN [v,c,d] (setItem c d v)
   release [v,c,d] []):=by intro _;rfl):PG X (.Subscript o i pos) (gSub to f t):=by
 intro a s e H v u Q I r h;rw[k];refine b7 (F2 (S6 (g a s e H _ I h) λc l ⟨x,m,n,p,q⟩=>?_));refine b7 (F2 (S6 (j a l e m _ n q) λd z ⟨y,B,C,D,J⟩=>?_));refine b7 (cF (b7 (F2 (S6 (hs a z e B x y v c d u _ C p D r J) λ_ N ⟨K,L,M⟩=>?_))));exact wpAny_release ⟨e,K,L,M⟩
def GB (c:TE) (g:TG):TS:=λD a H=>c a H λx d=>g x a d D.nx
def pH(i:PE X e d) (j:PG X c g) (hs:swapsWithSole [c] e pos.line X.env=pure false:=by rfl) (k:FT [c] e X.env=pure none:=by rfl)
  (l:(fq [c] X.env).map (·.2)=[fY c X.env]:=by rfl):PS X (.Assign [c] e pos) (GB d g):=by
 intro a s f H D I h;refine wpAny_Assign_stores (S6 (i a s f H _ I h) λv m ⟨x,n,o,p,r⟩=>?_) hs k;rw[l];exact S6 (j a m f n x v _ o p r) λ_ t q=>q
def F7 {i:Nat}{x:Str}{e:Expr}{d:TE}{a:Pos} (f:X.N.Nodup) (g:X.N[i]?=some x) (j:TY X.env.scope x) (k:PE X e d) (hs:mz e (some (.Name x a)) pos.line X.env=pure false:=by rfl) (l:X.fn x=true ∨ X.env.scope.names.lookup x=some .local:=by first|exact .inl rfl|exact .inr rfl|assumption):
  PS X (.Assign [.Name x a] e pos) (GB d (V5 i)):=by
 intro c s m H D I h;refine wpAny_Assign_Name (S6 (k c s m H _ I h) λv t ⟨y,n,o,p,q⟩=>?_) hs;exact jn o f g j p (λz r=>⟨_,n,r,q⟩) l
def tPar (i j:Nat) (c:TA):TS:=λD a H=>c a H λd e=>∃v w,d=[v,w]/\D.nx ((a.set i (some v)).set j (some w)) e
def Bi{a b:Expr} (O:X.calm=true) (C:X.N.Nodup) (Q:X.N[i]?=some x) (R:X.N[j]?=some y) (n:i≠j)
  (J:X.env.scope.names.lookup x=some .local) (K:X.env.scope.names.lookup y=some .local) (S:PA X [a,b] B)
  (T:FT [.Tuple [.Name x l,.Name y m] kt pt] (.Tuple [a,b] k2 pt2) X.env=pure (some [x,y]))
  (hs:swapsWithSole [.Tuple [.Name x l,.Name y m] kt pt] (.Tuple [a,b] k2 pt2) pos.line X.env=pure false:=by rfl):
  PS X (.Assign [.Tuple [.Name x l,.Name y m] kt pt] (.Tuple [a,b] k2 pt2) pos) (tPar i j B):=by
 intro c s L H D I h;rw[exec_Assign_arm];refine b7 (cF ?_);rw[hs];refine b7 (f9 ?_);rw[ZC (by decide)];refine b7 (Tuple_ (S6 (S _ c s L H _ I h) λU f ⟨vs,M,V,Y,r⟩=>?_));obtain⟨v,w,e1,r⟩:=r;subst e1;obtain⟨g,k,rfl,Z,t⟩:∃g k,U=[g,k]/\K3 v g/\K3 w k:=by
  cases Y with
  | cons p q =>
   cases q with
   | cons p' q' =>
    cases q';exact⟨_,_,rfl,p,p'⟩
 refine E4 ?_ (by show 2<=j6;decide);have I2:D1 X c L M { f with heap:=f.heap.push { cls:=.type "tuple",data:=.seq [g,k].toArray } }:=V.kept (t':=f.toks) λb o e=>f6 _ e;rw[T];refine b7 (f9 ?_);show j8 (n6 X.prog X.w) X.A (do rule "assign.swapped-stores";let d <- Og (.ref f.heap.objs.size) 2 none;lV [λv=>DS X.env y v,λv=>DS X.env x v] d.reverse;pure Flow.next) _ _ _;refine b7 (X6 (b7 (unpackItems_tuple (items:=#[g,k]) (I.ok.hd O) (IsTup.new f.heap _) λh' z=>?_)));have I3:=I2.kept (h':=h') (t':=f.toks) λb o e=>z b o (y7 (i5 e)) e;show j8 _ _ (lV [λv=>DS X.env y v,λv=>DS X.env x v] [k,g] >>= λ_=>pure Flow.next) _ _ _;refine b7 (ux (DM (jn I3 C R (.inl K) t (λs2 I4=>?_) (.inr K))));refine ux (DM (jn I4 C Q (.inl J) Z (λs3 N=>Uo (f9 ?_)) (.inr J)));rw[List.set_comm _ _ (G2 n)] at N;exact⟨_,M,N,r⟩
def OE (c:TT) (i:TS):TS:=λD a H=>∃W:Nat->St->Hp->Prop,(∃m,W m a H)/\∀m a H,W m a H ->
 c a H λb e=>if b=true then ∃N:St->Hp->Prop,(∀d f,N d f->∃g,g<m/\W g d f)/\i { D with nx:=N,ct:=N,bk:=D.nx } a e else D.nx a e
def HY(x:PassesOwn (n6 X.prog X.w) X.A X.env X.xe) (K:PT X c tc) (L:ur X body t):PS X (.While c body [] pos) (OE tc t):=by
 intro a s M H D I h;obtain⟨W,⟨O,Q⟩,g⟩:=h;refine wpAny_While (codeAny_whileLoop (λn R=>∃i y,D1 X a i y R/\W n i y) ?_ O ⟨M,H,I,Q⟩);rintro n S ⟨e,z,T,U⟩;refine cA x (S6 (K a S e z _ T (g n e z U)) λb V ⟨B,C,k⟩=>?_);cases b with
 | true =>
  obtain⟨N,J,k⟩:=k;rw[ZB rfl];refine cA x (S6 (L a V e B _ C k) λf Y l=>?_);cases f with
  | next =>
   obtain⟨d,j,m,o⟩:=l;obtain⟨p,q,r⟩:=J d j o;exact⟨p,q,d,j,m,r⟩
  | cont =>
   obtain⟨d,j,m,o⟩:=l;obtain⟨p,q,r⟩:=J d j o;exact⟨p,q,d,j,m,r⟩
  | brk=>exact l
  | ret v=>exact l
 | false =>
  rw[ZC v8];exact eW ⟨e,B,C,k⟩
end
structure It where
 go:Nat->Hp->Prop
 yld:Nat->Hp->V->Hp->Prop
 stop:Nat->Hp->Prop
def gZ (X:Cx) (a:List (Addr × Obj)) (H:Hp) (b:Addr):Prop :=
 H b=none/\b≠X.env.locals/\b ∉ X.fs/\(b∈X.ex ∨ X.s₀.heap.objs.size<=b)/\(∀x c,X.env.cells.lookup x=some c->c≠b)/\∀p∈X.pn++a,p.1≠b
variable {σ:St}
def D1.fpOk(I:D1 X a σ H s) (d:s.heap.objs.size<=b) (f:H' b=none):gZ X a H' b:=by
 refine⟨f,D2 (B5 I.lt d),I.nofs d,.inr (j9 I.sz d),λx c e z=>?_,λp g z=>?_⟩
 .obtain⟨v,q⟩:=I.cell x c e;exact Zy (B5 q.lt (by rw[z];exact d)) (U0 _)
 .exact Zy (B5 (i5 (I.pin p g).1) (by rw[z];exact d)) (U0 _)
structure pV (P:j0) (w:w5) (K:m9) (tg:Expr) (J:It) (fp:List Addr) (it:Addr) (tn:Nat->Heap->Prop):Prop where
 mem:it∈fp
 obj:∀i h,tn i h->∀b∈fp,∃o,h.get? b=some o/\∀v,o.data≠.cell v
 keep:∀i h h',tn i h->(∀b∈fp,∀o,h.get? b=some o->h'.get? b=some o)->tn i h'
 item:∀(X:Cx),X.prog=P->X.w=w->X.K=K->X.calm=true->∀(i:Nat) (pins:List (Addr × Obj)) (s:d9) (σ:St) (H:Hp) (E:b9->d9->Prop),D1 X pins σ H s->(∀b∈fp,gZ X pins H b)->tn i s.heap->J.go i H ->
  j8 (n6 P w) X.A (Y3 (.ref it)) (λr s1=>∃u,r=some u /\
   j8 (n6 P w) X.A (cB tg (.ref it) u) (λ_ s2=>∃x H',D1 X pins σ H' s2/\K3 x u/\J.yld i H x H'/\tn (i+1) s2.heap/\∀b∈fp,H' b=none) E s1) E s
 done:∀(X:Cx),X.prog=P->X.w=w->X.K=K->X.calm=true->∀(i:Nat) (pins:List (Addr × Obj)) (s:d9) (σ:St) (H:Hp) (E:b9->d9->Prop),D1 X pins σ H s->(∀b∈fp,gZ X pins H b)->tn i s.heap->J.stop i H ->
  j8 (n6 P w) X.A (Y3 (.ref it)) (λr s1=>r=none/\D1 X pins σ H s1) E s
 self:∀(A:A3) (i:Nat) (s:d9) (Q:b9->d9->Prop) (E:b9->d9->Prop),tn i s.heap->Q (.ref it) s->j8 (n6 P w) A (qJ (.ref it)) Q E s
abbrev TI:=St->Hp->(It->Hp->Prop)->Prop
def TU (X:Cx) (a:List (Addr × Obj)) (σ:St) (j:Expr) (R:It->Hp->Prop) (c:b9) (e:d9):Prop :=
 ∃(f:Addr) (g:List Addr) (i:Nat->Heap->Prop) (J:It) (d:Hp),c=.ref f/\D1 X a σ d e/\pV X.prog X.w X.K j J g f i/\i 0 e.heap/\(∀b∈g,gZ X a d b)/\R J d
def PI (X:Cx) (c iter:Expr) (d:TI):Prop :=
 ∀(a:List (Addr × Obj)) (s:d9) (σ:St) (H:Hp) (R:It->Hp->Prop),D1 X a σ H s->d σ H R ->
  j8 (n6 X.prog X.w) X.A (eval iter X.env) (λv e=>j8 (n6 X.prog X.w) X.A (qJ v) (TU X a σ c R) X.xe e) X.xe s
def zf(c:s.heap.get? it=some o) (d:o.cls=.type n) (hd:o.data=.fields vs)
  (e:["enumerate","zip","dict_itemiterator","dict_reverseitemiterator","odict_iterator","itertools.zip_longest","itertools.pairwise"].contains n=false) (a:Q () s):j8 M A (cB tg (.ref it) u) Q E s:=by
 unfold cB;cases tg <;> first
  | exact f9 a
  | (cases u <;> first
    | exact f9 a
    | (refine b7 (RI c ?_)
       rw[d,hd];show j8 M A (if (["enumerate","zip","dict_itemiterator","dict_reverseitemiterator","odict_iterator","itertools.zip_longest","itertools.pairwise"].contains n&&vs[0]? == some (N6 _))=true then _ else _) Q E s;rw[ZC (by intro h;rw[e,X5] at h;cases h)];exact f9 a))
def Oc (K:m9) (a:Addr):It :=
 ⟨λi H=>∃c x,jc K H a c/\c[i]?=some x,λi H x d=>d=H/\∀c,jc K H a c->c[i]?=some x,λi H=>∃c,jc K H a c/\c.length<=i⟩
def Itt (K:m9) (a:Addr):It :=
 ⟨λi H=>∃c x,jb K H a c/\c[i]?=some x,λi H x d=>d=H/\∀c,jb K H a c->c[i]?=some x,λi H=>∃c,jb K H a c/\c.length<=i⟩
def Ob (lo:Int) (n:Nat):It:=⟨λi _=>i<n,λi H x a=>a=H/\x=.int (lo+i),λi _=>n<=i⟩
variable {K:m9}
def Ee (a it:Addr):pV P w K tg (Oc K a) [it] it (λi h=>h.IsListIter it a i) where
 mem:=by simp
 obj:=λi h st b g=>by
  have e:b=it:=by simpa using g
  subst e;obtain⟨o,e,c,d⟩:=st;exact⟨o,e,λv z=>by rw[d] at z;cases z⟩
 keep:=λi h l st k=>st.at λo e=>k it (by simp) o e
 item:=by intro X q r t Q i f s σ H E I m st y;subst q r t;obtain⟨R,x,n,B⟩:=y;obtain⟨C,D,p,S⟩:=I.list n;obtain⟨u,T,U⟩:=D.get B;obtain⟨J,L,V,M,N,O⟩:=m it (by simp);refine KF st p.isList (x:=u) (by simpa using T) λl j Y=>?_;have Z:D1 X f σ H { s with heap:=l }:=I.turned (t':=s.toks) (λb o g e=>(Y.2 b g).trans e) J L M N O;obtain⟨o,e,c,d⟩:=id j;exact⟨u,rfl,zf (s:={ s with heap:=l }) e c d (by decide) ⟨x,H,Z,U,⟨rfl,λys hy=>by rw[I.list_inj hy n];exact B⟩,j,λb g=>(m b g).1⟩⟩
 done:=by intro X q r t Q i f s σ H E I m st y;subst q r t;obtain⟨R,n,B⟩:=y;obtain⟨C,D,p,S⟩:=I.list n;obtain⟨J,L,V,M,N,O⟩:=m it (by simp);have hl:=D.length;exact wpAny_pyNext_list_end (I.ok.hd Q) st p.isList (by simp;lia) λl eb=>⟨rfl,I.turned (t':=s.toks) (λb o g e=>eb b o g e) J L M N O⟩
 self:=λ_ _ _ _ _ st h=>wpAny_pyIter_listiter st h
def Av (a it:Addr):pV P w K tg (Itt K a) [it] it (λi h=>h.IsTupleIter it a i) where
 mem:=by simp
 obj:=λi h st b g=>by
  have e:b=it:=by simpa using g
  subst e;obtain⟨o,e,c,d⟩:=st;exact⟨o,e,λv z=>by rw[d] at z;cases z⟩
 keep:=λi h m st k=>st.at λo e=>k it (by simp) o e
 item:=by intro X r t y Q i f s σ H E I n st B;subst r t y;obtain⟨R,x,q,C⟩:=B;obtain⟨j,D,p,S⟩:=I.tuple q;obtain⟨u,T,U⟩:=D.get C;obtain⟨J,L,V,M,N,O⟩:=n it (by simp);refine wpAny_pyNext_tuple_item st (show s.heap.IsTuple a j.toArray from p) (x:=u) (by simpa using T) λm l Y=>?_;have Z:D1 X f σ H { s with heap:=m }:=I.turned (t':=s.toks) (λb o g e=>(Y.2 b g).trans e) J L M N O;obtain⟨o,e,c,d⟩:=id l;exact⟨u,rfl,zf (s:={ s with heap:=m }) e c d (by decide) ⟨x,H,Z,U,⟨rfl,λys hy=>by rw[I.tuple_inj hy q];exact C⟩,l,λb g=>(n b g).1⟩⟩
 done:=by intro X r t y Q i f s σ H E I n st B;subst r t y;obtain⟨R,q,C⟩:=B;obtain⟨j,D,p,S⟩:=I.tuple q;obtain⟨J,L,V,M,N,O⟩:=n it (by simp);have hl:=D.length;exact wpAny_pyNext_tuple_end (I.ok.hd Q) st (show s.heap.IsTuple a j.toArray from p) (by simp;lia) λm eb=>⟨rfl,I.turned (t':=s.toks) (λb o g e=>eb b o g e) J L M N O⟩
 self:=λ_ _ _ _ _ st h=>wpAny_pyIter_tupleiter st h
def Aw (it:Addr) (lo:Int) (n:Nat):pV P w K tg (Ob lo n) [it] it (λi h=>IsRangeIter h it (lo+(i:Nat)*1) ((n:Int) - (i:Nat)) 1) where
 mem:=by simp
 obj:=λi h st b c=>by
  have e:b=it:=by simpa using c
  subst e;exact⟨_,st,λv z=>by have J:Data.fields _=Data.cell v:=z;cases J⟩
 keep:=λi h f st k=>k it (by simp) _ st
 item:=by intro X j l m p i a s σ H E I g st q;subst j l m;obtain⟨r,x,L,y,B,C⟩:=g it (by simp);have W:=Walks.range (prog:=X.prog) (w:=X.w) (I.ok.hd p) it lo 1 n;refine W.item i s _ _ q st λv f D M d N=>?_;obtain⟨t,rfl⟩:=M;have O:D1 X a σ H { s with heap:=f,toks:=D }:=I.turned (λb o c e=>N b o (by simpa using c) e) r x y B C;refine⟨_,rfl,zf (s:={ s with heap:=f,toks:=D }) (n:="range_iterator") d rfl rfl (by decide) ⟨.int (lo+i),H,O,⟨t,?_⟩,⟨rfl,rfl⟩,d,λb c=>(g b c).1⟩⟩;rw[Int.mul_one]
 done:=by intro X j l m p i a s σ H E I g st q;subst j l m;obtain⟨r,x,L,y,B,C⟩:=g it (by simp);exact wpAny_pyNext_range_end (I.ok.hd p) st (by have:n<=i:=q;lia) λf eb=>⟨rfl,I.turned (t':=s.toks) (λb o c e=>eb b o c e) r x y B C⟩
 self:=λ_ _ _ _ _ st h=>wpAny_pyIter_rangeiter st h
def Tq (K:m9) (d:TE):TI:=λσ H R=>d σ H λx c=>∃a,x=.ref a/\(∃e,jc K c a e)/\R (Oc K a) c
def iTup (K:m9) (d:TE):TI:=λσ H R=>d σ H λx c=>∃a,x=.ref a/\(∃e,jb K c a e)/\R (Itt K a) c
def cQ(i:PE X l g):PI X tg l (Tq X.K g):=by
 intro c s σ H R I h;refine S6 (i c s σ H _ I h) λv d ⟨x,j,f,k,m⟩=>?_;obtain⟨a,e,⟨y,n⟩,q⟩:=m;subst e;cases k;obtain⟨r,z,p,B⟩:=f.list n;refine ly p.isList ?_;refine⟨d.heap.objs.size,[d.heap.objs.size],_,_,j,rfl,f.kept (t':=d.toks) λb o e=>f6 _ e,Ee a _,⟨_,j7 _ rfl,rfl,rfl⟩,λb t=>?_,q⟩;have e:b=d.heap.objs.size:=by simpa using t
 subst e;exact f.fpOk (i4 _) (f.hok.fresh (i4 _))
def mP(j:PE X l i):PI X tg l (iTup X.K i):=by
 intro c s σ H R I h;refine S6 (j c s σ H _ I h) λv d ⟨x,k,f,m,n⟩=>?_;obtain⟨a,e,⟨y,r⟩,q⟩:=n;subst e;cases m;obtain⟨g,z,p,B⟩:=f.tuple r;refine cj (show d.heap.IsTuple a g.toArray from p) ?_;refine⟨d.heap.objs.size,[d.heap.objs.size],_,_,k,rfl,f.kept (t':=d.toks) λb o e=>f6 _ e,Av a _,⟨_,j7 _ rfl,rfl,rfl⟩,λb t=>?_,q⟩;have e:b=d.heap.objs.size:=by simpa using t
 subst e;exact f.fpOk (i4 _) (f.hok.fresh (i4 _))
def HU{lo a:Int}{t u v:Tok} (I:D1 X pins σ H s) (f:-(2 ^ 62)<=lo) (g:lo<2 ^ 62) (i:-(2 ^ 62)<=a) (j:a<2 ^ 62)
  (q:R (Ob lo (a - lo).toNat) H):j8 (n6 X.prog X.w) X.A (qJ (.ref s.heap.objs.size)) (TU X pins σ tg R) E { s with heap:=s.heap.push { cls:=.type "range",data:=.fields #[.int lo t,.int a u,.int 1 v] },toks:=c }:=by
 refine wpAny_pyIter_range (IsRange.new ..) (small_one f g i j) ?_;have d:D1 X pins σ H { s with heap:=s.heap.push { cls:=.type "range",data:=.fields #[.int lo t,.int a u,.int 1 v] },toks:=c }:=I.kept λb o e=>f6 _ e;refine⟨(s.heap.push { cls:=.type "range",data:=.fields #[.int lo t,.int a u,.int 1 v] }).objs.size,[(s.heap.push { cls:=.type "range",data:=.fields #[.int lo t,.int a u,.int 1 v] }).objs.size],_,_,H,rfl,
  d.kept (t':=c) λb o e=>f6 _ e,Aw _ lo (a - lo).toNat,?_,λb k=>?_,q⟩
 .have e1:lo+((0:Nat):Int)*1=lo:=by simp
  have e2:(((a - lo).toNat:Nat):Int) - ((0:Nat):Int)=Builtin.Range.rangeSize lo a 1:=by rw[rangeSize_one];split <;> lia
  show IsRangeIter _ _ (lo+((0:Nat):Int)*1) ((((a - lo).toNat:Nat):Int) - ((0:Nat):Int)) 1;rw[e1,e2];exact j7 _ rfl
 .have e:b=(s.heap.push { cls:=.type "range",data:=.fields #[.int lo t,.int a u,.int 1 v] }).objs.size:=by simpa using k
  subst e;exact d.fpOk (i4 _) (d.hok.fresh (i4 _))
def Tp (a:TA):TI:=λσ H R=>a σ H λc d=>∃j:Int,c=[.int j]/\-(2 ^ 62)<=j/\j<2 ^ 62/\R (Ob 0 j.toNat) d
def Y6(f:Gl X "range") (g:X.mg "range"=none) (i:PA X [a] d) (hs:B9 [a] X.env=[(false,eval a X.env)]:=by rfl):PI X tg (.Call (.Name "range" p) [a] [] pos) (Tp d):=by
 intro pins s σ H R I h;refine Call_ (pP I f g boot_range (bp (S6 (i pos pins s σ H _ I h) λo v ⟨x,y,k,l,c⟩=>?_) hs rfl));obtain⟨j,e,c,m,q⟩:=c;subst e;cases l with
 | cons r n =>
  cases n;obtain⟨t,rfl⟩:=r;exact call_range_1 (HU k (by lia) (by lia) c m (by simpa using q))
def Sk (f:TI) (g:TG) (j:TS):TS:=λD σ H=>f σ H λJ k=>∃W:Nat->Nat->St->Hp->Prop,(∃m,W 0 m σ k)/\∀i m σ H,W i m σ H ->
 (J.stop i H/\D.nx σ H) ∨ (J.go i H/\∃N:St->Hp->Prop,(∀a c,N a c->∃e,e<m/\W (i+1) e a c)/\∀x c,J.yld i H x c->g x σ c λd l=>j { D with nx:=N,ct:=N,bk:=D.nx } d l)
def wR (a:List Addr) (h:Heap):List (Addr × Obj):=a.filterMap λb=>(h.get? b).map λo=>(b,o)
def X3(a:b∈fp) (e:h.get? b=some o):(b,o)∈wR fp h:=ZI.mpr ⟨b,a,by rw[e];rfl⟩
def EE(a:p∈wR fp h):p.1∈fp/\h.get? p.1=some p.2:=by
 obtain⟨b,c,e⟩:=ZI.mp a;cases q:h.get? b with
 | none=>rw[q] at e;cases e
 | some o =>
  rw[q] at e;have d:(b,o)=p:=E8 e;subst d;exact⟨c,q⟩
def D1.pinned(I:D1 X pins σ H s) (f:∀b∈fp,gZ X pins H b) (g:∀b∈fp,∃o,s.heap.get? b=some o/\∀v,o.data≠.cell v):D1 X (pins++wR fp s.heap) σ H s :=
 I.pins_of λp i=>(ZX.mp i).elim (λz=>I.pin p (i9 _ z)) λz=>by obtain⟨a,e⟩:=EE z;obtain⟨j,k,l,_⟩:=f p.1 a;obtain⟨o,c,d⟩:=g p.1 a;rw[e] at c;cases c;exact⟨e,j,k,l,d⟩
def D1.unpinned(I:D1 X (pins++pl) σ H s):D1 X pins σ H s:=I.pins_of λp a=>I.pin p (i9 _ (E9 _ a))
def eQ{wi:TI}{tb:TS} (B:PassesOwn (n6 X.prog X.w) X.A X.env X.xe) (hc:X.calm=true) (hi:PI X tg iter wi) (hg:PG X tg g) (c:ur X body tb)
  (hs:∀x,fV iter X.env x=pure x:=by intro _;rfl):PS X (.For tg iter body [] pos) (Sk wi g tb):=by
 intro pins s σ H D I h;refine wpAny_For (S6 (hi pins s σ H _ I h) λv s1 h1=>S6 h1 λa0 s2 h2=>?_) hs;obtain⟨it,fp,tn,J,H2,e,I2,T,R,f2,W,⟨m0,w0⟩,C⟩:=h2;subst e;have j:∀{t:Hp},(∀b∈fp,t b=none)->∀b∈fp,gZ X pins t b:=λhn b c=>⟨hn b c,(f2 b c).2⟩
 refine codeAny_forLoop_any (λn s'=>∃i k t,D1 X pins k t s'/\tn i s'.heap/\(∀b∈fp,t b=none)/\W i n k t) ?_ m0 ⟨0,σ,H2,I2,R,λb c=>(f2 b c).1,w0⟩;rintro n s3 ⟨i,l,Q,I3,L,M,w3⟩;obtain⟨stop,qn⟩|⟨go,N,hN,step⟩:=C i n l Q w3
 .refine cA B (S6 (T.done X rfl rfl rfl hc i pins s3 l Q X.xe I3 (j M) L stop) λr s4 ⟨S,I4⟩=>?_);subst S;exact eW ⟨l,Q,I4,qn⟩
 .refine cA B (S6 (T.item X rfl rfl rfl hc i pins s3 l Q X.xe I3 (j M) L go) λr s4 ⟨u,S,h4⟩=>?_);subst S;refine cA B (S6 h4 λ_ s5 ⟨x,H5,I5,r5,y5,z,U⟩=>?_);have V:=I5.pinned (j U) (T.obj _ _ z);refine cA B (S6 (hg _ s5 l H5 x u _ V r5 (step x H5 y5)) λ_ s6 ⟨Y,H6,I6,q6⟩=>?_);refine cA B (S6 (c _ s6 Y H6 _ I6 q6) λf Z y=>?_);have again:∀{a:St}{p:Hp},D1 X (pins++wR fp s5.heap) a p Z->N a p->∃m,m<n/\∃i k t,D1 X pins k t Z/\tn i Z.heap/\(∀b∈fp,t b=none)/\W i m k t:=λ{a p} q O=>by obtain⟨m',hm,w7⟩:=hN a p O;refine⟨m',hm,i+1,a,p,q.unpinned,T.keep _ _ _ z λb c o e=>(q.pin (b,o) (i9 _ (i9 _ (X3 c e)))).1,λb c=>?_,w7⟩;obtain⟨o,e,d⟩:=T.obj _ _ z b c;exact(q.pin (b,o) (i9 _ (i9 _ (X3 c e)))).2.1
  cases f with
  | next=>obtain⟨a,p,q,O⟩:=y;exact again q O
  | cont=>obtain⟨a,p,q,O⟩:=y;exact again q O
  | brk=>obtain⟨a,p,q,y⟩:=y;exact⟨a,p,q.unpinned,y⟩
  | ret v=>obtain⟨x7,a,p,q,r7,y⟩:=y;exact⟨x7,a,p,q.unpinned,r7,y⟩
def gY{g:TG}{l:TS}{D:oK}(Pv:Nat->St->Hp->Prop) (o:Pv 0 σ H) (r:∀i σ H,i<=xs.length->Pv i σ H->jc K H a xs)
  (hs:∀i x σ H,xs[i]?=some x->Pv i σ H->g x σ H λc k=>l { D with nx:=Pv (i+1),ct:=Pv (i+1),bk:=D.nx } c k) (hd:∀σ H,Pv xs.length σ H->D.nx σ H):
  ∃W:Nat->Nat->St->Hp->Prop,(∃m,W 0 m σ H)/\∀i m σ H,W i m σ H ->
   ((Oc K a).stop i H/\D.nx σ H) ∨ ((Oc K a).go i H/\∃N:St->Hp->Prop,(∀d f,N d f->∃n,n<m/\W (i+1) n d f)/\∀x f,(Oc K a).yld i H x f->g x σ f λc k=>l { D with nx:=N,ct:=N,bk:=D.nx } c k):=by
 refine⟨λi m σ H=>m=xs.length - i/\i<=xs.length/\Pv i σ H,⟨xs.length,by simp,A6 _,o⟩,?_⟩;rintro i m σ H ⟨rfl,s,p⟩;have q:=r i σ H s p;by_cases j:i<xs.length
 .refine .inr ⟨⟨xs,xs[i],q,by simp[j]⟩,Pv (i+1),λd f t=>⟨xs.length - (i+1),by lia,rfl,j,t⟩,λx f y=>?_⟩;obtain⟨e,y⟩:=y;subst e;exact hs i x σ _ (y xs q) p
 .have e:i=xs.length:=by lia
  subst e;exact .inl ⟨⟨xs,q,i4 _⟩,hd σ H p⟩
def lT{lo:Int}{g:TG}{k:TS}{D:oK}(Pv:Nat->St->Hp->Prop) (o:Pv 0 σ H)
  (hs:∀i σ H,i<n->Pv i σ H->g (.int (lo+i)) σ H λa j=>k { D with nx:=Pv (i+1),ct:=Pv (i+1),bk:=D.nx } a j) (hd:∀σ H,Pv n σ H->D.nx σ H):
  ∃W:Nat->Nat->St->Hp->Prop,(∃m,W 0 m σ H)/\∀i m σ H,W i m σ H ->
   ((Ob lo n).stop i H/\D.nx σ H) ∨ ((Ob lo n).go i H/\∃N:St->Hp->Prop,(∀c d,N c d->∃l,l<m/\W (i+1) l c d)/\∀x d,(Ob lo n).yld i H x d->g x σ d λa j=>k { D with nx:=N,ct:=N,bk:=D.nx } a j):=by
 refine⟨λi m σ H=>m=n - i/\i<=n/\Pv i σ H,⟨n,by simp,A6 _,o⟩,?_⟩;rintro i m σ H ⟨rfl,r,p⟩;by_cases f:i<n
 .refine .inr ⟨f,Pv (i+1),λc d q=>⟨n - (i+1),by lia,rfl,f,q⟩,λx d y=>?_⟩;obtain⟨e,y⟩:=y;subst e y;exact hs i σ _ f p
 .have e:i=n:=by lia
  subst e;exact .inl ⟨i4 _,hd σ H p⟩
abbrev R2:=V->V->Hp->VK->Prop
def nj (X:Cx) (f:b9->b9->Sem b9) (r:R2):Prop :=
 ∀(a:List (Addr × Obj)) (s:d9) (σ:St) (H:Hp) (x y:V) (v u:b9) (Q:VK),D1 X a σ H s->K3 x v->K3 y u->r x y H Q ->
  j8 (n6 X.prog X.w) X.A (f v u) (EP X a σ Q) X.xe s
def UnR (X:Cx) (f:b9->Sem b9) (r:V->Hp->VK->Prop):Prop :=
 ∀(a:List (Addr × Obj)) (s:d9) (σ:St) (H:Hp) (x:V) (v:b9) (Q:VK),D1 X a σ H s->K3 x v->r x H Q ->
  j8 (n6 X.prog X.w) X.A (f v) (EP X a σ Q) X.xe s
def cN (X:Cx) (f:b9) (r:List V->Hp->VK->Prop):Prop :=
 ∀(a:List (Addr × Obj)) (s:d9) (σ:St) (H:Hp) (c:List V) (d:List b9) (Q:VK),D1 X a σ H s->J9 c d->r c H Q ->
  j8 (n6 X.prog X.w) X.A (call f d) (EP X a σ Q) X.xe s
def Eh (r:R2) (a c:TE):TE:=λσ H Q=>a σ H λx d=>c σ d λy e=>r x y e Q
def tUn (r:V->Hp->VK->Prop) (a:TE):TE:=λσ H Q=>a σ H λx c=>r x c Q
def rI (C:Int->Int->Prop) (g:Int->Int->V):R2:=λx y H Q=>∃i j,x=.int i/\y=.int j/\C i j/\Q (g i j) H
def NK (g:Int->Int->V):R2:=λx y H Q=>∃i j,x=.int i/\y=.int j/\Q (g i j) H
def rU (g:Int->V):V->Hp->VK->Prop:=λx H Q=>∃i,x=.int i/\Q (g i) H
section
variable {X:Cx}{a b c:Expr}{ta tb tc:TE}{pos:Pos}
variable {f:b9->b9->Sem b9}
def QQ(l:PE X a ta) (m:PE X b tb) {R:V->V->Hp->Prop} (I:D1 X d σ H s)
  (h:ta σ H λx k=>tb σ k λy e=>R x y e) {Q:b9->d9->Prop}
  (n:∀v u j x y e,D1 X d σ e j->K3 x v->K3 y u->R x y e->j8 (n6 X.prog X.w) X.A (f v u) Q X.xe j):
  j8 (n6 X.prog X.w) X.A (eval a X.env) (λv g=>j8 (n6 X.prog X.w) X.A (eval b X.env) (λu i=>j8 (n6 X.prog X.w) X.A (f v u) Q X.xe i) X.xe g) X.xe s:=by
 refine S6 (l d s σ H _ I h) λv o ⟨x,k,p,q,r⟩=>?_;refine S6 (m d o σ k _ p r) λu j ⟨y,e,t,z,B⟩=>?_;exact n v u j x y e t q z B
def y8 {op:Operator}{r:R2} (e:nj X (fX op) r) (g:PE X a ta) (i:PE X b tb):PE X (.BinOp a op b pos) (Eh r ta tb):=by intro d s σ H Q I h;exact wpAny_BinOp (QQ g i I h λv u j x y k l m n q=>e d j σ k x y v u Q l m n q)
def SN(e:UnR X (unaryOp op) r) (g:PE X a ta):PE X (.UnaryOp op a pos) (tUn r ta):=by intro d s σ H Q I h;exact UnaryOp_ (S6 (g d s σ H _ I h) λv i ⟨x,j,k,l,m⟩=>e d i σ j x v Q k l m)
def Ry{g:Int->Int->Int}
  (rule:∀(i j:Int) (t u:Tok) (s:d9) (Q:b9->d9->Prop) (E:b9->d9->Prop),C i j->Q (.int (g i j) s.toks) { s with toks:=s.toks+1 }->j8 (n6 X.prog X.w) X.A (f (.int i t) (.int j u)) Q E s):
  nj X f (rI C λi j=>.int (g i j)):=by
 intro d s σ H x y v u Q I e k h;obtain⟨i,j,rfl,rfl,l,q⟩:=h;obtain⟨t,rfl⟩:=e;obtain⟨m,rfl⟩:=k;exact rule i j t m s _ _ l ⟨.int (g i j),H,I.tok _,⟨_,rfl⟩,q⟩
def SR {g:Int->Int->Int}
  (rule:∀(i j:Int) (t u:Tok) (s:d9) (Q:b9->d9->Prop) (E:b9->d9->Prop),Q (.int (g i j) s.toks) { s with toks:=s.toks+1 }->j8 (n6 X.prog X.w) X.A (f (.int i t) (.int j u)) Q E s):
  nj X f (NK λi j=>.int (g i j)):=by
 intro d s σ H x y v u Q I e k h;obtain⟨i,j,rfl,rfl,q⟩:=h;obtain⟨t,rfl⟩:=e;obtain⟨l,rfl⟩:=k;exact rule i j t l s _ _ ⟨.int (g i j),H,I.tok _,⟨_,rfl⟩,q⟩
def LW {g:Int->Int->Bool}
  (rule:∀(i j:Int) (t u:Tok) (s:d9) (Q:b9->d9->Prop) (E:b9->d9->Prop),Q (.bool (g i j)) s->j8 (n6 X.prog X.w) X.A (f (.int i t) (.int j u)) Q E s):
  nj X f (NK λi j=>.bl (g i j)):=by
 intro d s σ H x y v u Q I e k h;obtain⟨i,j,rfl,rfl,q⟩:=h;obtain⟨t,rfl⟩:=e;obtain⟨l,rfl⟩:=k;exact rule i j t l s _ _ ⟨.bl (g i j),H,I,rfl,q⟩
def CDiv (i j:Int):Prop:=0<j/\j<1073741824
def Ud (i j:Int):Prop:=0<=j/\j<=1000000/\i.natAbs<2 ^ 64
def Rf (i j:Int):Prop:=(-(2 ^ 64)<i/\i<2 ^ 64) ∨ (-(2 ^ 64)<j/\j<2 ^ 64)
def Rf.ok(h:Rf i j):IntMulOk i j:=by
 obtain⟨d,e⟩|⟨d,e⟩:=h
 .exact .of_left (intBits_le_64 d e)
 .exact .of_right (intBits_le_64 d e)
def dI:nj X (fX .Add) (NK λi j=>.int (i+j)):=SR λ_ _ _ _ _ _ _ q=>add_int q
def Iy:nj X (fX .Sub) (NK λi j=>.int (i - j)):=SR λ_ _ _ _ _ _ _ q=>sub_int q
def pK:nj X (fX .Mult) (rI Rf λi j=>.int (i*j)):=Ry λ_ _ _ _ _ _ _ d q=>mul_int q d.ok
def CU:nj X (fX .FloorDiv) (rI CDiv λi j=>.int (i / j)):=Ry λi j _ _ _ _ _ d q=>by have e:(0:Int)<j:=d.1;have g:j<1073741824:=d.2;exact floordiv_int (by lia) (by rw[ye i (by lia)];exact q) (.inl (PyProof.noPylong_small (by lia)))
def mR:nj X (fX .Mod) (rI (λ_ j=>0<j) λi j=>.int (i % j)):=Ry λi j _ _ _ _ _ d q=>by have e:(0:Int)<j:=d;exact mod_int' (by lia) (by rw[Int.fmod_eq_emod_of_nonneg i (by lia)];exact q)
def Iz:nj X (fX .Pow) (rI Ud λi j=>.int (i ^ j.toNat)):=Ry λ_ _ _ _ _ _ _ d q=>pow_int_small d.1 d.2.1 d.2.2 q
def unI {f:b9->Sem b9}{g:Int->Int}
  (rule:∀(i:Int) (t:Tok) (s:d9) (Q:b9->d9->Prop) (E:b9->d9->Prop),Q (.int (g i) s.toks) { s with toks:=s.toks+1 }->j8 (n6 X.prog X.w) X.A (f (.int i t)) Q E s):
  UnR X f (rU λi=>.int (g i)):=by
 intro d s σ H x v Q I e h;obtain⟨i,rfl,q⟩:=h;obtain⟨t,rfl⟩:=e;exact rule i t s _ _ ⟨.int (g i),H,I.tok _,⟨_,rfl⟩,q⟩
def OA:UnR X (unaryOp .USub) (rU λi=>.int (-i)):=unI λ_ _ _ _ _ q=>neg_int q
end
def SA:V->V->Bool
 | .non,.non=>true | .non,.int _=>true | .int _,.non=>true | .non,.bl _=>true | .bl _,.non=>true | .non,.str _=>true | .str _,.non=>true
 | .int _,.int _=>true | .bl _,.bl _=>true | .str _,.str _=>true | .byt _,.byt _=>true
 | .int _,.str _=>true | .str _,.int _=>true | .bl _,.str _=>true | .str _,.bl _=>true
 | _,_=>false
def rEq:R2:=λx y H Q=>SA x y=true/\Q (.bl (decide (x=y))) H
def rNe:R2:=λx y H Q=>SA x y=true/\Q (.bl (!decide (x=y))) H
def Dr:decide (V.int i=V.int j)=(i == j):=by rw[bQ];simp
def JR:decide (V.bl i=V.bl j)=(i == j):=by rw[bQ];simp
def Dq:decide (V.str i=V.str j)=(i == j):=by rw[bQ];simp
def Ds:decide (V.byt i=V.byt j)=(i.toList == j.toList):=by rw[bQ];cases i;cases j;simp
section
variable {X:Cx}{a b c:Expr}{ta tb tc:TE}{pos:Pos}
def P8(I:D1 X d σ H s) (q:Q (.bl k) H) (e:k=f):EP X d σ Q (.bool f) s:=by subst e;exact⟨.bl k,H,I,rfl,q⟩
def eg:nj X (P7 .Eq) rEq:=by
 intro k s σ H x y v u Q I g d h;obtain⟨f,q⟩:=h;cases x with
 | non =>
  cases g;cases y with
  | non=>cases d;exact PySem.EqNone.eq_none_none (P8 I q (by simp))
  | bl j=>cases d;exact PySem.EqNone.eq_none_bool (P8 I q (by simp))
  | int j=>obtain⟨e,rfl⟩:=d;exact PySem.EqNone.eq_none_int (P8 I q (by simp))
  | str j=>obtain⟨e,rfl⟩:=d;exact PySem.EqNone.eq_none_str (P8 I q (by simp))
  | _=>exact Zy (show false=true from f) v8
 | bl i =>
  cases g;cases y with
  | non=>cases d;exact PySem.EqNone.eq_bool_none (P8 I q (by simp))
  | bl j=>cases d;exact eq_bool (P8 I q JR)
  | str j=>obtain⟨e,rfl⟩:=d;exact PySem.EqMixed.eq_bool_str (P8 I q (by simp))
  | _=>exact Zy (show false=true from f) v8
 | int i =>
  obtain⟨t,rfl⟩:=g;cases y with
  | non=>cases d;exact PySem.EqNone.eq_int_none (P8 I q (by simp))
  | int j=>obtain⟨e,rfl⟩:=d;exact eq_int (P8 I q Dr)
  | str j=>obtain⟨e,rfl⟩:=d;exact PySem.EqMixed.eq_int_str (P8 I q (by simp))
  | _=>exact Zy (show false=true from f) v8
 | str i =>
  obtain⟨t,rfl⟩:=g;cases y with
  | non=>cases d;exact PySem.EqNone.eq_str_none (P8 I q (by simp))
  | bl j=>cases d;exact PySem.EqMixed.eq_str_bool (P8 I q (by simp))
  | int j=>obtain⟨e,rfl⟩:=d;exact PySem.EqMixed.eq_str_int (P8 I q (by simp))
  | str j=>obtain⟨e,rfl⟩:=d;exact eq_str (P8 I q Dq)
  | _=>exact Zy (show false=true from f) v8
 | byt i =>
  obtain⟨t,rfl⟩:=g;cases y with
  | byt j=>obtain⟨e,rfl⟩:=d;exact W.eq_bytes (P8 I q Ds)
  | _=>exact Zy (show false=true from f) v8
 | _=>cases y <;> exact Zy (show false=true from f) v8
def iB:nj X (P7 .NotEq) rNe:=by
 intro k s σ H x y v u Q I g d h;obtain⟨f,q⟩:=h;cases x with
 | non =>
  cases g;cases y with
  | non=>cases d;exact PySem.EqNone.ne_none_none (P8 I q (by simp))
  | bl j=>cases d;exact PySem.EqNone.ne_none_bool (P8 I q (by simp))
  | int j=>obtain⟨e,rfl⟩:=d;exact PySem.EqNone.ne_none_int (P8 I q (by simp))
  | str j=>obtain⟨e,rfl⟩:=d;exact PySem.EqNone.ne_none_str (P8 I q (by simp))
  | _=>exact Zy (show false=true from f) v8
 | bl i =>
  cases g;cases y with
  | non=>cases d;exact PySem.EqNone.ne_bool_none (P8 I q (by simp))
  | bl j=>cases d;exact ne_bool (P8 I q (Zu not JR))
  | str j=>obtain⟨e,rfl⟩:=d;exact PySem.EqMixed.ne_bool_str (P8 I q (by simp))
  | _=>exact Zy (show false=true from f) v8
 | int i =>
  obtain⟨t,rfl⟩:=g;cases y with
  | non=>cases d;exact PySem.EqNone.ne_int_none (P8 I q (by simp))
  | int j=>obtain⟨e,rfl⟩:=d;exact ne_int (P8 I q (Zu not Dr))
  | str j=>obtain⟨e,rfl⟩:=d;exact PySem.EqMixed.ne_int_str (P8 I q (by simp))
  | _=>exact Zy (show false=true from f) v8
 | str i =>
  obtain⟨t,rfl⟩:=g;cases y with
  | non=>cases d;exact PySem.EqNone.ne_str_none (P8 I q (by simp))
  | bl j=>cases d;exact PySem.EqMixed.ne_str_bool (P8 I q (by simp))
  | int j=>obtain⟨e,rfl⟩:=d;exact PySem.EqMixed.ne_str_int (P8 I q (by simp))
  | str j=>obtain⟨e,rfl⟩:=d;exact ne_str (P8 I q (Zu not Dq))
  | _=>exact Zy (show false=true from f) v8
 | byt i =>
  obtain⟨t,rfl⟩:=g;cases y with
  | byt j=>obtain⟨e,rfl⟩:=d;exact W.ne_bytes (P8 I q (Zu not Ds))
  | _=>exact Zy (show false=true from f) v8
 | _=>cases y <;> exact Zy (show false=true from f) v8
def SO:nj X (P7 .Lt) (NK λi j=>.bl (decide (i<j))):=LW λ_ _ _ _ _ _ _ q=>lt_int q
def vp:nj X (P7 .LtE) (NK λi j=>.bl (decide (i<=j))):=LW λ_ _ _ _ _ _ _ q=>le_int q
def IA:nj X (P7 .Gt) (NK λi j=>.bl (decide (j<i))):=LW λ_ _ _ _ _ _ _ q=>gt_int q
def SQ:nj X (P7 .GtE) (NK λi j=>.bl (decide (j<=i))):=LW λ_ _ _ _ _ _ _ q=>ge_int q
variable {op:Ku}
def N2 (b:Expr) (h:op≠.In:=by decide) (d:op≠.NotIn:=by decide):eG op b=false:=by
 have e1:(op == CmpOp.In)=false:=by cases op <;> first|rfl|exact Zy rfl h
 have e2:(op == Ux)=false:=by cases op <;> first|rfl|exact Zy rfl d
 cases b <;> simp[eG,e1,e2]
variable {r:R2}
def wY (e:nj X (P7 op) r) (f:PE X a ta) (g:PE X b tb) (i:eG op b=false):PE X (.Compare a [op] [b] pos) (Eh r ta tb):=by intro d s σ H Q I h;exact wpAny_Compare1 (QQ f g I h λv u j x y k l m n q=>e d j σ k x y v u Q l m n q) i
def NA (t:TE):TT:=λσ H Q=>t σ H λx d=>∃k,x=.bl k/\Q k d
def J1 {op:Ku}{r:R2} (f:nj X (P7 op) r) (g:PE X a ta) (i:PE X b tb) (j:eG op b=false):PT X (.Compare a [op] [b] pos) (NA (Eh r ta tb)):=by
 intro d s σ H Q I h;refine Nj (S6 (g d s σ H _ I h) λv l ⟨x,m,n,o,p⟩=>S6 (i d l σ m _ n p) λu q ⟨y,t,B,C,D⟩ =>
  S6 (f d q σ t x y v u _ B o C D) λc O ⟨z,J,L,M,k,e,N⟩=>?_) j
 subst e;cases M;exact V6 ⟨J,L,N⟩
def Gy (r e:R2) (ta tb tc:TE):TE:=λσ H Q=>ta σ H λx f=>tb σ f λy g=>r x y g λz d=>∃k,z=.bl k /\
 (if k=true then tc σ d λi j=>e y i j Q else Q (.bl false) d)
def sI(p:nj X (P7 op) r) (i:nj X (P7 g) j) (q:PE X a ta) (t:PE X b tb) (B:PE X c tc)
  (C:lastMarks [op,g] [b,c]=false:=by with_unfolding_all rfl):PE X (.Compare a [op,g] [b,c] pos) (Gy r j ta tb tc):=by
 intro f s σ H Q I h;refine Compare_chain (S6 (q f s σ H _ I h) λv D ⟨x,J,L,M,N⟩=>chain_link (S6 (t f D σ J _ L N) λu O ⟨y,R,S,l,T⟩ =>
  S6 (p f O σ R x y v u _ S M l T) λd U ⟨z,m,n,V,k,e,o⟩=>?_)) C
 subst e;cases V;refine V6 ?_;cases k with
 | false=>exact ite_ff ⟨.bl false,m,n,rfl,o⟩
 | true=>exact ite_tt (chain_last (S6 (B f U σ m _ n o) λY Z ⟨z',H4,I4,r4,q4⟩=>i f Z σ H4 y z' u Y Q I4 l r4 q4))
def HX(p:nj X (P7 op) r) (i:nj X (P7 g) j) (q:PE X a ta) (t:PE X b tb) (B:PE X c tc)
  (C:lastMarks [op,g] [b,c]=false:=by with_unfolding_all rfl):PT X (.Compare a [op,g] [b,c] pos) (NA (Gy r j ta tb tc)):=by
 intro f s σ H Q I h;refine isTrue_chain (S6 (q f s σ H _ I h) λv D ⟨x,J,L,M,N⟩=>test_link (S6 (t f D σ J _ L N) λu O ⟨y,R,S,l,T⟩ =>
  S6 (p f O σ R x y v u _ S M l T) λd U ⟨z,m,n,V,k,e,o⟩=>?_)) C
 subst e;cases V;refine V6 ?_;cases k with
 | false =>
  obtain⟨k',Y,Z⟩:=o;cases Y;exact ite_ff ⟨m,n,Z⟩
 | true =>
  refine ite_tt (test_last (S6 (B f U σ m _ n o) λw' s4 ⟨z',H4,I4,r4,q4⟩=>S6 (i f s4 σ H4 y z' u w' _ I4 l r4 q4) λd' s5 ⟨z2,H5,I5,r5,k2,e2,q5⟩=>?_));subst e2;cases r5;exact V6 ⟨H5,I5,q5⟩
def pM:(j6:Nat)<2 ^ 63:=by rw[R7];decide
def i8:nj X (fX .Add) (λx y H Q=>∃i j,x=.str i/\y=.str j/\i.length+j.length<=j6/\Q (.str (i++j)) H):=by intro d s σ H x y v u Q I e f h;obtain⟨i,j,rfl,rfl,g,q⟩:=h;obtain⟨t,rfl⟩:=e;obtain⟨k,rfl⟩:=f;exact add_str (λk l=>⟨.str (i++j),H,I.tok _,⟨_,rfl⟩,q⟩) g
def kg(r:J9 [x] us):∃u,us=[u]/\K3 x u:=by
 cases r with
 | cons d e=>cases e;exact⟨_,rfl,d⟩
def Nx(r:J9 [x,y] us):∃u d,us=[u,d]/\K3 x u/\K3 y d:=by
 cases r with
 | cons e f =>
  cases f with
  | cons g i=>cases i;exact⟨_,_,rfl,e,g⟩
def JW:cN X (.builtin "abs") (λd H Q=>∃i,d=[.int i]/\Q (.int (if i<0 then -i else i)) H):=by intro e s σ H d f Q I r h;obtain⟨i,rfl,q⟩:=h;obtain⟨u,rfl,t,rfl⟩:=kg r;exact call_abs_int λu g=>⟨.int (if i<0 then -i else i),H,I.tok _,⟨_,rfl⟩,q⟩
def Fk (g:X.calm=true):cN X (.builtin "max") (λe H Q=>∃i j,e=[.int i,.int j]/\Q (.int (if j > i then j else i)) H):=by
 intro f s σ H e l Q I r h;obtain⟨i,j,rfl,q⟩:=h;obtain⟨u,m,rfl,⟨t,rfl⟩,⟨n,rfl⟩⟩:=Nx r;refine max_two_ints (I.ok.hd g) λo p k=>⟨_,H,I.kept k,?_,q⟩
 by_cases d:j > i
 .rw[ZB d,ZB d];exact⟨_,rfl⟩
 .rw[ZC d,ZC d];exact⟨_,rfl⟩
def Fj (g:X.calm=true):cN X (.builtin "min") (λe H Q=>∃i j,e=[.int i,.int j]/\Q (.int (if j<i then j else i)) H):=by
 intro f s σ H e l Q I r h;obtain⟨i,j,rfl,q⟩:=h;obtain⟨u,m,rfl,⟨t,rfl⟩,⟨n,rfl⟩⟩:=Nx r;refine min_two_ints (I.ok.hd g) λo p k=>⟨_,H,I.kept k,?_,q⟩
 by_cases d:j<i
 .rw[ZB d,ZB d];exact⟨_,rfl⟩
 .rw[ZC d,ZC d];exact⟨_,rfl⟩
def vJ:cN X (.type "int") (λd H Q=>(∃i,d=[.int i]/\Q (.int i) H) ∨ ∃k,d=[.bl k]/\Q (.int (if k then 1 else 0)) H):=by
 intro e s σ H d g Q I r h;obtain⟨i,rfl,q⟩|⟨k,rfl,q⟩:=h
 .obtain⟨u,rfl,t,rfl⟩:=kg r;exact call_int_int ⟨.int i,H,I,⟨_,rfl⟩,q⟩
 .obtain⟨u,rfl,f⟩:=kg r;cases f;exact call_int_bool ⟨.int (if k then 1 else 0),H,I.tok _,⟨_,rfl⟩,q⟩
def R0:cN X (.type "str") (λd H Q=>∃i,d=[.int i]/\i.natAbs.log2<1920/\Q (.str (toString i)) H):=by intro e s σ H d g Q I r h;obtain⟨i,rfl,f,q⟩:=h;obtain⟨u,rfl,t,rfl⟩:=kg r;exact PySem.P.str_of_int f ⟨.str _,H,I.tok _,⟨_,rfl⟩,q⟩
end
structure Cf (h:Heap) (x dx C:Addr) (mA:Str->Option b9):Prop where
 obj:h.get? x=some (jA C dx)
 ns:h.Ns1 dx mA
 ne:dx≠x
def EJ(n:h.Ns1 d f):∃g,h.get? d=some g/\∀name,KW name g=some (f name):=by
 obtain⟨o,i,s,j,k,l,_,m⟩:=n;refine⟨o,j,λname=>?_⟩;have e:=m name;unfold nsFind uv at e;rw[<- Gj] at e;unfold KW;rw[k];dsimp only;split
 .rename_i y q;rw[q] at e;exact Zu some e
 .rename_i q;rw[q] at e;have a:i.toList.any (·.refKey)=false:=by rw[List.any_eq_false];intro y p;obtain⟨z,t,c⟩:=l y (Array.mem_toList_iff.mp p);simp[DictEntry.refKey,c]
  have r:¬ i.toList.any (·.refKey)=true:=by rw[a];exact v8
  rw[ZC r];exact Zu some e
variable {C:Addr}
def Cf.look(I:Cf h x c C d):∃a,UQ h x (jA C c) C (some a)/\∀name,KW name a=some (d name):=
 let ⟨a,e,f⟩:=EJ I.ns
 ⟨a,⟨I.obj,rfl,rfl,e⟩,f⟩
section
variable {s:d9}
def MG(X:K.In s.heap) (I:Cf s.heap x dx C mA) (c:Al K C name=true) (d:KY K C=true)
  (e:O6 K (.ref C) name=some none) (g:mA name=some v) (a:W.handedIn v=true) (h:Q v { s with toks:=s.toks+1 }):
  j8 (n6 prog w) A (getAttr (.ref x) name expr) Q E s:=by
 obtain⟨j,J,i⟩:=I.look;exact W.get_value X J (DU c).1 (W.findObj_own d e rfl (by rw[i,g])) a h
def JC(X:K.In s.heap) (I:Cf s.heap x dx C mA) (a:Al K C name=true)
  (c:O6 K (.ref C) name=some (some (.ref f))) (d:Om K (.ref f)=true) (e:mA name=none) (h:Q (.ref f,[.ref x]) s):
  j8 (n6 prog w) A (xZ (.ref x) name pl) Q E s:=by
 obtain⟨g,J,i⟩:=I.look;exact W.method_fn X J (DU a).1 (DU a).2 c (Zs.mp d) (by show (KW name g).map (·.isSome)=some false;rw[i,e];rfl) h
def Lx(X:K.In s.heap) (I:Cf s.heap x dx C mA)
  (hs:O6 K (.ref C) "__setattr__"=some (some (.builtin "object.__setattr__"))) (k:W.plainOver K C=true) (l:RN K C name=some none) (m:KY K C=true)
  (n:Ap mA ns) (hsz:ns.length<=j6)
  (h:∀d,Cf d x dx C (λy=>if y=name then some v else mA y)->F5 dx s.heap d->Q () { s with heap:=d,toks:=s.toks+2 }):
  j8 (n6 prog w) A (setAttr (.ref x) name v) Q E s:=by
 obtain⟨t,J,z⟩:=I.look;refine W.set_plain X J hs (W.osa_open (s:={ s with toks:=s.toks+1 }) (r:=none) X J k l λb=>?_);obtain⟨cd,o,e⟩:=W.any_some m;have p:s.heap.get? x=some ⟨.ref C,some dx,.plain,#[]⟩:=I.obj;refine b7 (f9 (b7 (b7 (DL p (b7 (W.Looks.here (s:={ s with toks:=s.toks+1 }) (W.looks_clsIn X o) ?_))))));rw[e];refine f9 (a:=some dx) (b7 (f9 (b7 ?_)));refine wpAny_nsSet1 (s:={ s with toks:=s.toks+1 }) I.ns λd a c=>?_;obtain⟨B,q,r,g,i,j⟩:=a.count (PySem.Within.cons name v n);refine b7 (wpAny_lookBehind g (by rw[i];exact pastItsLine_dict (j9 j (by rw[n5];lia))) ?_);exact f9 (h _ ⟨(c.2 _ (G2 I.ne)).trans I.obj,a,I.ne⟩ c)
def Jb(X:K.In s.heap) (c:FE K C=true)
  (e:O6 K (.ref C) "__init__"=some (some (.ref f))) (i:W.typeIn K (.ref f)=some (.type "function"))
  (h:Z2 (n6 prog w) (A.under (.builtin "type.__call__" ⟨.ref C::vs,a⟩)) (.call (.ref f) ⟨.ref (s.heap.objs.size+1)::vs,a⟩) (W.InitBack (s.heap.objs.size+1) R)
   { s with heap:=(s.heap.push cR).push (jA C s.heap.objs.size) }):
  Z2 (n6 prog w) A (.call (.ref C) ⟨vs,a⟩) R s:=by
 obtain⟨j,g,d,t,os⟩:=s;exact W.make_core (W.makes_of X c) (Am X e) (λself=>W.bind_fn X self i) (.inl rfl) h
end
def md (f:Str) (v:V):List (Str × V)->List (Str × V)
 | []=>[(f,v)]
 | (g,x)::r=>if g=f then (g,v)::r else (g,x)::md f v r
theorem qz (f g:Str) (v:V):∀fs:List (Str × V),(md f v fs).lookup g=if g=f then some v else fs.lookup g
 | []=>by
  show dW g [(f,v)]=_;by_cases h:g=f
  .have a:(g == f)=true:=Zs.mpr h;simp only[dW,a,ZB h]
  .have a:(g == f)=false:=Zr.mpr h;simp only[dW,a,ZC h]
 | (k,x)::r=>by
  have d:=qz f g v r;rw[show md f v ((k,x)::r)=(if k=f then (k,v)::r else (k,x)::md f v r) from rfl];by_cases c:k=f
  .rw[ZB c];by_cases h:g=k
   .have a:(g == k)=true:=Zs.mpr h;simp only[dW,a,ZB (h.trans c)]
   .have a:(g == k)=false:=Zr.mpr h;simp only[dW,a,ZC (λe:g=f=>h (e.trans c.symm))]
  .rw[ZC c];by_cases h:g=k
   .have a:(g == k)=true:=Zs.mpr h;simp only[dW,a,ZC (λe:g=f=>c (h.symm.trans e))]
   .have a:(g == k)=false:=Zr.mpr h;simp only[dW,a];exact d
theorem pQ (f:Str) (v:V):∀fs:List (Str × V),f∈(md f v fs).map (·.1)/\∀g,g∈fs.map (·.1)->g∈(md f v fs).map (·.1)
 | []=>⟨by simp[md],λg h=>by simp at h⟩
 | (k,x)::r=>by
  obtain⟨c,d⟩:=pQ f v r;rw[show md f v ((k,x)::r)=(if k=f then (k,v)::r else (k,x)::md f v r) from rfl];by_cases a:k=f
  .rw[ZB a];subst a;exact⟨by simp,λg h=>by simpa using h⟩
  .rw[ZC a];refine⟨?_,λg h=>?_⟩
   .rw[t8];exact g0 _ c
   .rw[t8] at h ⊢;obtain e|e:=C7.mp h
    .exact C7.mpr (.inl e)
    .exact g0 _ (d g e)
theorem qA (f:Str) (v:V):∀fs:List (Str × V),(md f v fs).length<=fs.length+1
 | []=>by simp[md]
 | (k,x)::r=>by
  have c:=qA f v r;rw[show md f v ((k,x)::r)=(if k=f then (k,v)::r else (k,x)::md f v r) from rfl];by_cases a:k=f
  .rw[ZB a,n5,n5];lia
  .rw[ZC a,n5,n5];lia
def kC.some_of(r:kC (some v) o):∃u,o=some u/\K3 v u:=by
 cases o with
 | none=>exact(show False from r).elim
 | some u=>exact⟨u,rfl,r⟩
def kC.none_of(r:kC none o):o=none:=by
 cases o with
 | none=>rfl
 | some u=>exact(show False from r).elim
def EW(r:K3 v u):W.handedIn u=true:=by
 cases v with
 | non=>cases (show u=B4 from r);rfl
 | bl b=>cases (show u=R9 b from r);rfl
 | int i=>obtain⟨t,e⟩:=(show ∃t,u=nv i t from r);cases e;rfl
 | str x=>obtain⟨t,e⟩:=(show ∃t,u=cI x t from r);cases e;rfl
 | byt b=>obtain⟨t,e⟩:=(show ∃t,u=Us b t from r);cases e;rfl
 | flt b=>obtain⟨t,e⟩:=(show ∃t,u=DV b t from r);cases e;rfl
 | ref a=>cases (show u=r6 a from r);rfl
 | ty n=>cases (show u=iP n from r);rfl
def rq (g:dQ P w H h) (e:H a=some (.ins C dx fs)):∃c,Cf h a dx C c/\(∀f,kC (fs.lookup f) (c f))/\Ap c (fs.map (·.1))/\fs.length<=1000/\H dx=some (.own a):=by
 obtain⟨d,z,ne,ob,c,n,r,q⟩:=(show O4 P w H h a (.ins C dx fs) from g a _ e)
 exact⟨c,⟨ob,n,ne⟩,r,q,z,d⟩
structure FS (K:m9) (C:Addr):Prop where
 pg:Al K C aj=true
 hd:KY K C=true
 po:W.plainOver K C=true
 sa:O6 K (.ref C) "__setattr__"=some (some (.builtin "object.__setattr__"))
def FS.get (c:FS K C) (f:Str):Al K C f=true:=c.pg
def nq (K:m9) (C:Addr) (f:Str):Prop:=O6 K (.ref C) f=some none
def nq.taker(n:nq K C f):RN K C f=some none:=by unfold RN;rw[show O6 K (.ref C) f=some none from n];rfl
structure Con (K:m9) (C:Addr) (f:Str) (v:V) (u:b9):Prop where
 at_:O6 K (.ref C) f=some (some u)
 rel:K3 v u
 get:oQ K u "__get__"=some none
 cp:W.copiedNames.contains f=false
structure Nf (K:m9) (C:Addr) (m:Str) (f:Addr):Prop where
 at_:O6 K (.ref C) m=some (some (.ref f))
 fn:Om K (.ref f)=true
 kp:aN K (.ref f)=true
def BW{b:Bool} (I:D1 X pins σ H s) (e:H a=some (.ins C dx fs)) (c:FS X.K C) (n:nq X.K C f) (l:fs.lookup f=some v)
  (h:∀u d,D1 X pins σ H d->K3 v u->Q u d):j8 (n6 X.prog X.w) A (getAttr (.ref a) f b) Q E s:=by
 obtain⟨i,O,r,_,_,_⟩:=rq I.hok e;obtain⟨u,j,g⟩:=kC.some_of (v:=v) (o:=i f) (by rw[<- l];exact r f);exact MG I.kIn O (c.get f) c.hd n j (EW g) (h u _ (I.tok _) g)
def BV(I:D1 X pins σ H s) (e:H a=some (.ins C dx fs)) (c:FS X.K C) (k:Nf X.K C m g) (l:fs.lookup m=none)
  (h:Q (.ref g,[.ref a]) s):j8 (n6 X.prog X.w) A (xZ (.ref a) m pl) Q E s:=by
 obtain⟨d,O,r,_,_,_⟩:=rq I.hok e;have i:d m=none:=kC.none_of (by rw[<- l];exact r m);exact JC I.kIn O (c.get m) k.at_ k.fn i h
def AQ(I:D1 X pins σ H s) (e:H a=some (.ins C dx fs)) (c:FS X.K C) (n:nq X.K C f) (M:fs.length<1000) (m:K3 y u)
  (h:∀i,D1 X pins σ (C3 H a (.ins C dx (md f y fs))) i->Q () i):j8 (n6 X.prog X.w) A (setAttr (.ref a) f u) Q E s:=by
 obtain⟨j,O,r,k,_,l⟩:=rq I.hok e;have p:(fs.map (·.1)).length<=j6:=by rw[d8,R7];lia
 refine Lx I.kIn O c.sa c.po n.taker c.hd k p λt d x=>h _ ?_;have B:∃o,t.get? dx=some o:=let ⟨o,_,_,D,_⟩:=d.ns;⟨o,D⟩
 refine I.write (x:=a) (e:=dx) (by rw[e];exact ak) (.inr l) (λb q J z=>(x.2 b J).trans z) B ?_;refine⟨by rw[t9 O.ne];exact l,?_,O.ne,d.obj,_,d.ns,λg=>?_,λg L=>?_⟩
 .have:=qA f y fs;lia
 .show kC ((md f y fs).lookup g) (if g=f then some u else j g);rw[qz];by_cases q:g=f
  .rw[ZB q,ZB q];exact m
  .rw[ZC q,ZC q];exact r g
 .by_cases q:g=f
  .rw[q];exact(pQ f y fs).1
  .refine (pQ f y fs).2 g (k g λz=>L ?_);show (if g=f then some u else j g)=none;rw[ZC q];exact z
def D1.made (I:D1 X pins σ H s):D1 X pins σ (C3 (C3 H s.heap.objs.size (.own (s.heap.objs.size+1))) (s.heap.objs.size+1) (.ins C s.heap.objs.size []))
  { s with heap:=(s.heap.push cR).push (jA C s.heap.objs.size) }:=by
 have e1:(s.heap.push cR).get? s.heap.objs.size=some cR:=j7 s.heap rfl;have e2:((s.heap.push cR).push (jA C s.heap.objs.size)).get? (s.heap.objs.size+1)=some (jA C s.heap.objs.size):=by
  have:=j7 (s.heap.push cR) (o:=jA C s.heap.objs.size) rfl
  rwa [D7] at this
 have e3:(s.heap.push cR).Ns s.heap.objs.size (λ_=>none):=⟨cR,#[],_,e1,rfl,(λe c=>Zy c (by simp)),λ_=>rfl⟩
 have d:=I.laid (a:=s.heap.objs.size) (o:=.own (s.heap.objs.size+1)) (h':=s.heap.push cR) (t':=s.toks) (λb u q=>f6 _ q) (i4 _) ⟨_,e1⟩;refine d.laid (a:=s.heap.objs.size+1) (o:=.ins C s.heap.objs.size []) (t':=s.toks) (λb u q=>f6 _ q) (DY (D7 _ _)) ?_;have ne:s.heap.objs.size≠s.heap.objs.size+1:=y7 (T5 _);refine⟨by rw[t9 ne,j3],A6 _,ne,e2,λ_=>none,(Heap.Ns1.of_empty e3).at λo q=>f6 _ q,λ_=>ak,λy g=>Zy rfl g⟩
def MZ(d:eI e f env (eval e env)=eval e env)
  (h:j8 (n6 prog w) A (eval e env) (λo c=>j8 (n6 prog w) A (getAttr o f true) Q E c) E s):j8 (n6 prog w) A (eval (.Attribute e f pos) env) Q E s :=
 Attribute_any_ h (by rw[arm_eval_Attribute,d])
def tFld (K:m9) (d:TE) (f:Str):TE:=λσ H Q=>d σ H λx c=>∃a C e fs v,x=.ref a/\c a=some (.ins C e fs)/\FS K C/\nq K C f/\fs.lookup f=some v/\Q v c
def sFld (K:m9) (e g:TE) (f:Str):TS:=λD σ H=>g σ H λy i=>e σ i λx c=>∃a C d fs,x=.ref a/\c a=some (.ins C d fs)/\FS K C/\nq K C f/\fs.length<1000 /\
 D.nx σ (C3 c a (.ins C d (md f y fs)))
def wW (g:PE X e ta) (i:eI e f X.env (eval e X.env)=eval e X.env):PE X (.Attribute e f pos) (tFld X.K ta f):=by intro d s σ H Q I h;refine MZ i (S6 (g d s σ H _ I h) λu z ⟨x,j,k,m,a,C,B,fs,v,p,r,c,n,l,q⟩=>?_);subst p;obtain rfl:u=r6 a:=m;exact BW k r c n l λD J t y=>⟨v,j,t,y,q⟩
def PD (g:PE X o ta) (i:PE X value tv) (hs:mz value (some (.Attribute o f pos')) pos.line X.env=pure false):PS X (.Assign [.Attribute o f pos'] value pos) (sFld X.K ta tv f):=by intro d s σ H D I h;refine plainObj_wpAny_Assign_Attribute (S6 (i d s σ H _ I h) λu j ⟨y,k,m,p,q⟩=>S6 (g d j σ k _ m q) λr M ⟨x,N,t,v,a,C,O,fs,z,B,c,n,l,J⟩=>?_) hs;subst z;obtain rfl:r=r6 a:=v;exact AQ t B c n l p λQ L=>⟨σ,_,L,J⟩
section
variable {H:Hp}{b:Bool}
inductive pU (K:m9) (H:Hp):V->b9->Prop where
 | non:pU K H .non (.type "NoneType")
 | bl (x:Bool):pU K H (.bl x) (.type "bool")
 | int (i:Int):pU K H (.int i) (.type "int")
 | str (x:Str):pU K H (.str x) (.type "str")
 | flt (x:UInt64):pU K H (.flt x) (.type "float")
 | lst {a:Addr}{xs:List V} (e:H a=some (.lst xs)):pU K H (.ref a) (.type "list")
 | frz {a:Addr}{o:Obj}{xs:List V} (e:H a=some (.frz o (.lst xs))):pU K H (.ref a) (.type "list")
 | tup {a:Addr}{xs:List V} (e:H a=some (.tup xs)):pU K H (.ref a) (.type "tuple")
 | dK {a:Addr}{kvs:List (O0 × V)} (e:H a=some (.dK kvs)):pU K H (.ref a) (.type "dict")
 | dT {a:Addr}{kvs:List (List O0 × V)} (e:H a=some (.dT kvs)):pU K H (.ref a) (.type "dict")
 | ins {a C dx:Addr}{fs:List (Str × V)} (e:H a=some (.ins C dx fs)) (cl:FS K C) (ha:O6 K (.ref C) "__class__"=some (some (.builtin "object.__class__")))
   (hn:oQ K (.builtin "object.__class__") "__get__"=some (some (.builtin "getset_descriptor.__get__"))) (htk:FD K (.builtin "object.__class__")=some true)
   (hm:Ri K C (.type "object")=some true):pU K H (.ref a) (.ref C)
def ET(I:D1 X pins σ H s) (d:K3 x u) (ty:pU X.K H x t) (e:dR X.K t c=some b) (h:∀v,Q (.bool b) { s with toks:=v }):
  j8 (n6 X.prog X.w) A (call (.builtin "isinstance") [u,c]) Q E s:=by
 cases ty with
 | non=>cases (show u=B4 from d);exact cw W.kitx_none I.kIn ak e (λz=>nomatch z) h
 | bl y=>cases (show u=R9 y from d);exact cw W.kitx_bool I.kIn ak e (λz=>nomatch z) h
 | int i=>obtain⟨t,q⟩:=(show ∃t,u=nv i t from d);cases q;exact cw W.kitx_int I.kIn ak e (λz=>nomatch z) h
 | str y=>obtain⟨t,q⟩:=(show ∃t,u=cI y t from d);cases q;exact cw W.kitx_str I.kIn ak e (λz=>nomatch z) h
 | flt y=>obtain⟨t,q⟩:=(show ∃t,u=DV y t from d);cases q;exact cw W.kitx_float I.kIn ak e (λz=>nomatch z) h
 | @lst a k f =>
  cases (show u=r6 a from d);obtain⟨_,_,n,_,g⟩:=(show O4 X.prog X.w H s.heap a (.lst k) from I.hok a _ f)
  exact cw W.kitx_list I.kIn ⟨_,g,rfl⟩ e (λz=>nomatch z) h
 | @frz a ob k f =>
  cases (show u=r6 a from d);obtain⟨_,_,_,n,_,g⟩:=(show O4 X.prog X.w H s.heap a (.frz ob (.lst k)) from I.hok a _ f)
  exact cw W.kitx_list I.kIn ⟨_,g,rfl⟩ e (λz=>nomatch z) h
 | @tup a k f =>
  cases (show u=r6 a from d);obtain⟨_,_,_,p⟩:=(show O4 X.prog X.w H s.heap a (.tup k) from I.hok a _ f)
  obtain⟨o,g,l,_⟩:=p;exact cw W.kitx_tuple I.kIn ⟨o,g,l⟩ e (λz=>nomatch z) h
 | @dK a j f =>
  cases (show u=r6 a from d);obtain⟨_,_,R,_,p⟩:=(show O4 X.prog X.w H s.heap a (.dK j) from I.hok a _ f)
  obtain⟨o,B,D,g,l,_⟩:=p;exact cw W.kitx_dict I.kIn ⟨o,g,l.1⟩ e (λz=>nomatch z) h
 | @dT a j f =>
  cases (show u=r6 a from d);obtain⟨_,_,k,_,o,B,D,g,l,_⟩:=(show O4 X.prog X.w H s.heap a (.dT j) from I.hok a _ f)
  exact cw W.kitx_dict I.kIn ⟨o,g,l.1⟩ e (λz=>nomatch z) h
 | @ins a C S fs f r L M m N =>
  cases (show u=r6 a from d);obtain⟨T,O,_⟩:=rq I.hok f;obtain⟨U,J,_⟩:=O.look;exact cw (W.kitx_own (r.get _) r.hd L M m N) I.kIn J e (λz=>nomatch z) h
end
structure bD (k:Nat) (A:A3):Prop where
 hd:A.handled=none
 dp:A.depth+3*k+5<recursionLimit
 un:A.units+16*k+200<fW
def bD.mono(r:bD k A) (h:j<=k):bD j A:=⟨r.hd,by have:=r.dp;lia,by have:=r.un;lia⟩
theorem bD.deeper(r:bD (k+1) A) (env:Env):bD k (A.deeper env):=
 ⟨r.hd,by have:=r.dp;show A.depth+1+3*k+5<_;lia,by have:=r.un;show A.units+3+16*k+200<_;lia⟩
variable {us:List b9}
def BE:(A.under (.builtin "type.__call__" ⟨.ref C::us,a⟩)).depth=A.depth+1:=by first|rfl|simp[Ac,Code.weight,Code.isCreation,Code.isGuard,Code.isCaller,UX,Co,guardIds]
def BD:(A.under (.builtin "type.__call__" ⟨.ref C::us,a⟩)).units=A.units+1:=by first|rfl|simp[Ac,Code.cUnits,UX,Co]
def bD.make(r:bD (k+1) A) (C:Addr) (us:List b9) (a:List (Str × b9)):bD k (A.under (.builtin "type.__call__" ⟨.ref C::us,a⟩)):=
 ⟨r.hd,by have:=r.dp;rw[BE];lia,by have:=r.un;rw[BD];lia⟩
theorem bD.depth(r:bD k A):A.depth<recursionLimit:=by have:=r.dp;lia
theorem bD.units(r:bD k A):A.units+64<fW:=by have:=r.un;lia
def rS:TA:=λ_ H Q=>Q [] H
def kM (a:TE) (c:TA):TA:=λσ H Q=>a σ H λx d=>c σ d λe f=>Q (x::e) f
section
variable {X:Cx}{e:Expr}{es:List Expr}{te:TE}{t:TA}{pos:Pos}
def i3:PA X [] rS:=λ_ _ _ _ H Q I h=>qN ⟨[],H,I,.nil,h⟩
def b8 (c:PE X e te) (d:PA X es t) (hs:B9 (e::es) X.env=(false,eval e X.env)::B9 es X.env:=by rfl):PA X (e::es) (kM te t):=by intro pos a s σ H Q I h;rw[hs];show j8 _ _ (spliced ((false,eval e X.env)::Z7 pos (B9 es X.env))) _ _ s;refine iQ (S6 (c a s σ H _ I h) λu f ⟨x,g,i,j,k⟩=>?_);exact S6 (d pos a f σ g _ i k) λus q ⟨l,m,n,o,p⟩=>⟨x::l,m,n,.cons j o,p⟩
def tTup (t:TA):TE:=λσ H Q=>t σ H λa c=>a.length<=j6/\∀p,c p=none->Q (.ref p) (C3 c p (.tup a))
def Ei (t:TA):TE:=λσ H Q=>t σ H λa c=>a.length<=j6/\∀p,c p=none->Q (.ref p) (C3 c p (.lst a))
def mQ(h:PA X es t):PE X (.Tuple es x1 pos) (tTup t):=by intro a s σ H Q I g;refine wpAny_Tuple_spliced (S6 (h pos a s σ H _ I g) λus c ⟨i,d,f,r,z,q⟩=>⟨by rw[<- r.length];exact z,?_⟩);have j:d c.heap.objs.size=none:=f.hok.fresh (i4 _);refine⟨.ref c.heap.objs.size,C3 d c.heap.objs.size (.tup i),f.laid (t':=c.toks) (λb u e=>f6 _ e) (i4 _) ?_,rfl,q _ j⟩;exact⟨⟨z,⟨_,j7 _ rfl,rfl⟩⟩,us,r,⟨_,j7 _ rfl,rfl,_,rfl⟩⟩
def S0 (h:PA X es t):PE X (.List es pos) (Ei t):=by intro a s σ H Q I g;refine wpAny_List_spliced (S6 (h pos a s σ H _ I g) λus c ⟨i,d,f,r,z,q⟩=>⟨by rw[<- r.length];exact z,?_⟩);have j:d c.heap.objs.size=none:=f.hok.fresh (i4 _);refine⟨.ref c.heap.objs.size,C3 d c.heap.objs.size (.lst i),f.laid (t':=c.toks) (λb u e=>f6 _ e) (i4 _) ?_,rfl,q _ j⟩;exact⟨z,us,0,r,j7 _ rfl⟩
end
abbrev Sp:=List V->Hp->VK->XK->Prop
abbrev DJ:=List Env->Hp->d9->XK->b9->d9->Prop
structure zN (P:j0) (w:w5) (K:m9) (mg:Str->Option b9) (base:Heap) (A:A3) (outer:List Env) (s:d9) (H:Hp):Prop where
 frames:A.frames=some outer
 mod:Mod K mg base
 bs:∀b o,base.get? b=some o->s.heap.get? b=some o/\H b=none
 bsz:base.objs.size<=s.heap.objs.size
 funs:s.heap.FunFrames base outer
 frf:∀b∈fR outer,H b=none
 hok:dQ P w H s.heap
 bare:lJ s.gens
def CE (a:List Env) (P:j0) (w:w5) (H:Hp) (s:d9) (Q:VK) (u:b9) (s':d9):Prop :=
 ∃v c,s'.os=s.os/\lJ s'.gens/\Un (fR a) [] H c s.heap s'.heap/\dQ P w c s'.heap/\K3 v u/\Q v c
def CR (c:DJ) (a:List Env) (P:j0) (w:w5) (H:Hp) (s:d9) (Q:VK) (E:XK) (r:fZ) (s':d9):Prop :=
 match r with
 | .ok (.ret u)=>CE a P w H s Q u s'
 | .ok _=>False
 | .error e=>c a H s E e s'
structure K6 (P:j0) (w:w5) (K:m9) (mg:Str->Option b9) (base:Heap) (CX:DJ) (k:Nat) (f:Addr) (fd:C5) (ps:List Str) (sp:Sp):Prop where
 len:∀vs H Q E,sp vs H Q E->vs.length=ps.length
 run:∀(A:A3) (outer:List Env) (s:d9) (H:Hp) (args:Args) (us:List b9) (vs:List V) (Q:VK) (E:XK),bD k A->zN P w K mg base A outer s H->vY s fd args (ps.zip us)->J9 vs us->sp vs H Q E ->
  Z2 (n6 P w) A (.call (.ref f) args) (CR CX outer P w H s Q E) s
theorem K6.mono(F:K6 P w K mg a e j f g ps sp) (h:j<=k):
  K6 P w K mg a e k f g ps sp:=⟨F.len,λA c s H d us i Q E l=>F.run A c s H d us i Q E (l.mono h)⟩
def zN.make(e:zN P w K mg base A a s H) (C:Addr) (us:List b9) (c:List (Str × b9)):
  zN P w K mg base (A.under (.builtin "type.__call__" ⟨.ref C::us,c⟩)) a s H:=⟨by first|exact e.frames | (simpa [Ac,Code.envs,Co,pushEnvs] using e.frames),e.mod,e.bs,e.bsz,e.funs,e.frf,e.hok,e.bare⟩
def D1.env0 (I:D1 X pins σ H s):zN X.prog X.w X.K X.mg X.base X.A X.stack s H :=
 ⟨I.ok.frames,I.ok.mod,I.bs,j9 I.ok.bsz I.sz,I.stack,I.stkFree,I.hok,I.bare⟩
def D1.after(I:D1 X pins σ H s) (h:CE X.stack X.prog X.w H s Q u s'):EP X pins σ Q u s':=by obtain⟨v,f,os,a,un,c,r,q⟩:=h;obtain⟨i,g,d,t,e⟩:=s';obtain rfl:e=s.os:=os;exact⟨v,f,I.call (h':=i) (g':=g) (d':=d) (t':=t) (ch:=[]) un c a (λb z=>Zy z (by simp)),r,q⟩
def GA (sp:Sp) (a:List V) (E:XK) (t:TA):TE:=λσ H Q=>t σ H λc d=>sp (c++a) d Q E
def yo (C:Addr) (m:Str) (sp:Sp) (c:List V) (E:XK) (e:TE) (t:TA):TE:=λσ H Q=>e σ H λx d=>∃a f fs,x=.ref a/\d a=some (.ins C f fs)/\fs.lookup m=none /\
 t σ d λg i=>sp (x::(g++c)) i Q E
def Sj (C:Addr) (sp:Sp) (c:List V) (E:XK) (t:TA):TE:=λσ H Q=>t σ H λe d=>∀x a,d x=none->d a=none->a≠x ->
 sp (.ref x::(e++c)) (C3 (C3 d a (.own x)) x (.ins C a [])) (λv f=>v=.non/\Q (.ref x) f) E
def cO (K:m9) (a:C5) (ps:List Str) (ds:List b9):Prop :=
 ∀(s:d9) (us:List b9),K.In s.heap->(us++ds).length=ps.length->vY s a ⟨us,[]⟩ (ps.zip (us++ds))
variable {ps:List Str}
def cO.all(h:∀us:List b9,us.length=ps.length->mC a ⟨us,[]⟩=pure (ps.zip us)):cO K a ps []:=λs us _ c=>by rw[P4] at c ⊢;exact .of_eq (h us c)
def fN (d:DJ) (X:Cx) (E:XK):Prop:=∀(a:List (Addr × Obj)) (σ:St) (H:Hp) (s:d9) (e:b9) (c:d9),D1 X a σ H s->d X.stack H s E e c->X.xe e c
section
variable {f C:Addr}{E:XK}{p pos apos:Pos}
def HJ(F:K6 X.prog X.w X.K X.mg X.base CX k f fd ps sp) (g:bD k X.A) (i:cO X.K fd ps ds) (hd:J9 dvs ds) (j:fN CX X E)
  (I:D1 X a σ H s) (r:J9 vs us) (h:sp (vs++dvs) H Q E):j8 (n6 X.prog X.w) X.A (call (.ref f) us) (EP X a σ Q) X.xe s:=by
 have d:J9 (vs++dvs) (us++ds):=r.append hd;have l:(us++ds).length=ps.length:=by rw[<- d.length];exact F.len _ _ _ _ h
 refine nJ (dz (F.run X.A X.stack s H ⟨us,[]⟩ (us++ds) (vs++dvs) Q E g I.env0 (i s us I.kIn l) d h) λr n c=>?_);cases r with
 | error e=>exact j a σ H s e n I c
 | ok q =>
  cases q with
  | ret u=>exact I.after c
  | next=>exact G3 c
  | brk=>exact G3 c
  | cont=>exact G3 c
def CQ (F:K6 X.prog X.w X.K X.mg X.base CX k f fd ps sp) (i:bD k X.A) (j:Gl X x) (l:X.mg x=some (.ref f)) (n:aN X.K (.ref f)=true) (v:cO X.K fd ps ds) (hd:J9 dvs ds) (y:fN CX X E)
  (z:PA X (e::es) t) (c:(x == ("__debug__":Str))=false:=by decide) (B:B9 (e::es) X.env=(false,eval e X.env)::B9 es X.env:=by rfl) (d:(Z7 pos (B9 es X.env)).any (·.1)=false:=by rfl):
  PE X (.Call (.Name x p) (e::es) [] pos) (GA sp dvs E t):=by
 intro a s σ H Q I h;refine cm (lP I j l ?_ c);refine FV (h₀:=X.base) I.ok.mod.kin n (S6 (z pos a s σ H _ I h) λus D ⟨J,L,g,r,q⟩=>⟨g.kIn,?_⟩) B d;exact HJ F i v hd y g r q
def CO {pl:Sem Bool} (z:PE X o ta) (c:FS X.K C) (j:Nf X.K C m f) (F:K6 X.prog X.w X.K X.mg X.base CX k f fd ps sp) (B:bD k X.A) (D:cO X.K fd ps ds) (hd:J9 dvs ds) (J:fN CX X E) (L:PA X (e::es) t)
  (g:B9 (e::es) X.env=(false,eval e X.env)::B9 es X.env:=by rfl) (i:(Z7 pos (B9 es X.env)).any (·.1)=false:=by rfl)
  (M:eval (.Call (.Attribute o m apos) (e::es) [] pos) X.env=(do
   let n <- eval o X.env
   KH apos.atName
   let (f,first) <- nN [n] (xZ n m pl)
   callWith pos f first (Z7 pos (B9 (e::es) X.env)) (vU pos (lC [] X.env))):=by rfl):
  PE X (.Call (.Attribute o m apos) (e::es) [] pos) (yo C m sp dvs E ta t):=by
 intro d s σ H Q I h;refine W.methodCall_KW (pl:=pl) (S6 (z d s σ H _ I h) λu N ⟨x,O,v,R,a,Y,fs,S,T,l,q⟩=>?_) M;subst S;obtain rfl:u=r6 a:=R;refine BV v T c j l ?_;refine FV (first:=[.ref a]) (h₀:=X.base) I.ok.mod.kin j.kp (S6 (L pos d N σ O _ v q) λus Z ⟨U,H2,y,r,V⟩=>⟨y.kIn,?_⟩) g i;exact HJ (us:=.ref a::us) (vs:=.ref a::U) F B D hd J y (.cons rfl r) V
structure Mk (K:m9) (C f:Addr):Prop where
 makes:FE K C=true
 init:O6 K (.ref C) "__init__"=some (some (.ref f))
 fn:Om K (.ref f)=true
 kp:aN K (.ref C)=true
def HI(M:Mk X.K C f) (F:K6 X.prog X.w X.K X.mg X.base CX k f fd ps sp) (l:bD (k+1) X.A) (n:cO X.K fd ps ds) (hd:J9 dvs ds)
  (q:fN CX X E) (I:D1 X a σ H s) (r:J9 vs us)
  (h:∀x d,H x=none->H d=none->d≠x->sp (.ref x::(vs++dvs)) (C3 (C3 H d (.own x)) x (.ins C d [])) (λv y=>v=.non/\Q (.ref x) y) E):
  j8 (n6 X.prog X.w) X.A (call (.ref C) us) (EP X a σ Q) X.xe s:=by
 have i:=h (s.heap.objs.size+1) s.heap.objs.size (I.hok.fresh (ae _)) (I.hok.fresh (i4 _)) (y7 (T5 _));have g:=D1.made (C:=C) I;have j:J9 (V.ref (s.heap.objs.size+1)::(vs++dvs)) (r6 (s.heap.objs.size+1)::(us++ds)):=.cons rfl (r.append hd);have z:(r6 (s.heap.objs.size+1)::us++ds).length=ps.length:=by have e:=j.length;rw[F.len _ _ _ _ i] at e;exact e.symm
 refine nJ (Jb (f:=f) I.kIn M.makes M.init (Zs.mp M.fn) (dz (F.run _ X.stack _ _ ⟨r6 (s.heap.objs.size+1)::us,[]⟩ (r6 (s.heap.objs.size+1)::(us++ds)) _ _ E (l.make C us [])
  (g.env0.make C us []) (n _ (r6 (s.heap.objs.size+1)::us) g.kIn z) j i) λr B c=>?_))
 cases r with
 | error e=>exact q a σ _ _ e B g c
 | ok D =>
  cases D with
  | ret u =>
   obtain⟨v,J,L,N,O,R⟩:=g.after c;subst O;exact⟨N,⟨V.ref (s.heap.objs.size+1),J,L,rfl,R⟩⟩
  | next=>exact G3 c
  | brk=>exact G3 c
  | cont=>exact G3 c
def Ii (M:Mk X.K C f) (F:K6 X.prog X.w X.K X.mg X.base CX k f fd ps sp) (d:bD (k+1) X.A) (g:Gl X x) (i:X.mg x=some (.ref C)) (j:cO X.K fd ps ds) (hd:J9 dvs ds) (l:fN CX X E)
  (a:(x == ("__debug__":Str))=false:=by decide):PE X (.Call (.Name x p) [] [] pos) (Sj C sp dvs E rS):=by
 intro c s σ H Q I h;refine cm (lP I g i ?_ a);exact W.callWith_K0 I.kIn M.kp (HI (us:=[]) M F d j hd l I .nil h)
end
section
variable {fd:C5}{ps ks:List Str}
structure KBinds (K:m9) (fd:C5) (ps ks:List Str) (g:List b9->List b9->List b9) (gV:List V->List V->List V):Prop where
 to:∀(s:d9) (us ws:List b9),K.In s.heap->(g us ws).length=ps.length->vY s fd ⟨us,ks.zip ws⟩ (ps.zip (g us ws))
 rel:∀{vs:List V}{us:List b9}{zs:List V}{ws:List b9},J9 vs us->J9 zs ws->J9 (gV vs zs) (g us ws)
variable {g:List b9->List b9->List b9}{gV:List V->List V->List V}
end
structure C6 (N P:List Str) (sc:O9):Prop where
 kind:sc.kind=.function
 co:sc.isCoroutine=false
 gen:sc.isGenerator=false
 nd:N.Nodup
 pre:N.take P.length=P
 par:∀x∈P,sc.names.lookup x=some .local ∨ sc.names.lookup x=some .cell
 nofree:∀y∈sc.names,y.2≠.free
def aS{N P:List Str}{sc:O9}(a:sc.kind=.function:=by rfl)(b:sc.isCoroutine=false:=by rfl)(c:sc.isGenerator=false:=by rfl)(d:N.take P.length=P:=by rfl)(e:N.Nodup:=by decide)(f:∀x∈P,sc.names.lookup x=some .local ∨ sc.names.lookup x=some .cell:=by decide)(g:∀y∈sc.names,y.2≠.free:=by decide):C6 N P sc:=⟨a,b,c,e,d,f,g⟩
theorem vK {kindOf:Str->Option bM}{x:Str}:∀{binds:List (Str × b9)}{m:Str->Option b9},(∀v,(x,v) ∉ binds)->Kj kindOf binds m x=m x
 | [],_,_=>rfl
 | (n,v)::r,m,h=>by
  unfold Kj;rw[vK λw a=>h w (g0 _ a)];split
  .have:x≠n:=by rintro rfl;exact h v f7
   simp[this]
  .rfl
theorem vM {kindOf:Str->Option bM}{x:Str}:∀{binds:List (Str × b9)}{m:Str->Option b9},(∀v,(x,v) ∉ binds)->Kk kindOf binds m x=m x
 | [],_,_=>rfl
 | (n,v)::r,m,h=>by
  unfold Kk;rw[vM λw a=>h w (g0 _ a)];split
  .rfl
  .have:x≠n:=by rintro rfl;exact h v f7
   simp[this]
theorem vL {kindOf:Str->Option bM}{x:Str}{v:b9}:∀{P:List Str}{vs:List b9}{i:Nat}{m:Str->Option b9},P.Nodup->P[i]?=some x->vs[i]?=some v->kindOf x=some .local ->
  Kj kindOf (P.zip vs) m x=some v
 | [],_,_,_,_,h,_,_=>by simp at h
 | _::_,[],_,_,_,_,h,_=>by simp at h
 | p::P,w::vs,0,m,d,a,c,e=>by
  simp at a c;subst a;subst c;show Kj kindOf ((p,w)::P.zip vs) m p=_;unfold Kj;rw[vK λv f=>(dD.mp d).1 (lW f).1,ZB e];simp
 | p::P,w::vs,i+1,m,d,a,c,e=>by show Kj kindOf ((p,w)::P.zip vs) m x=_;unfold Kj;exact vL (i:=i) (dD.mp d).2 (by simpa using a) (by simpa using c) e
theorem vN {kindOf:Str->Option bM}{x:Str}{v:b9}:∀{P:List Str}{vs:List b9}{i:Nat}{m:Str->Option b9},P.Nodup->P[i]?=some x->vs[i]?=some v->kindOf x≠some .local ->
  Kk kindOf (P.zip vs) m x=some v
 | [],_,_,_,_,h,_,_=>by simp at h
 | _::_,[],_,_,_,_,h,_=>by simp at h
 | p::P,w::vs,0,m,d,a,c,e=>by
  simp at a c;subst a;subst c;show Kk kindOf ((p,w)::P.zip vs) m p=_;unfold Kk;rw[vM λv f=>(dD.mp d).1 (lW f).1,ZC e];simp
 | p::P,w::vs,i+1,m,d,a,c,e=>by show Kk kindOf ((p,w)::P.zip vs) m x=_;unfold Kk;exact vN (i:=i) (dD.mp d).2 (by simpa using a) (by simpa using c) e
def start (N:List Str) (vs:List V):St:=vs.map some++cG (N.length - vs.length) none
def gw (g:DJ) (P:j0) (w:w5) (K:m9) (mg:Str->Option b9) (base:Heap) (N:List Str) (c:Str) (scope:O9) (f:Addr) (cd:b9) (A:A3) (a:List Env) (s:d9) (H:Hp) (E:XK):Cx where
 prog:=P
 w:=w
 K:=K
 mg:=mg
 base:=base
 A:=A.deeper (bo c scope s.heap.objs.size f cd)
 N:=N
 s₀:=s
 H₀:=H
 env:=bo c scope s.heap.objs.size f cd
 outer:=a
 stack:=bo c scope s.heap.objs.size f cd::a
 ex:=[]
 calm:=true
 fn:=λ_=>true
 pn:=[]
 xe:=λe i=>j8 (n6 P w) (A.deeper (bo c scope s.heap.objs.size f cd)) (qY (bo c scope s.heap.objs.size f cd) e) (λ_ d=>g a H s E e d) (λj d=>g a H s E j d) i
def oH{sc:O9} (h:sc.names.lookup x=some .cell):∃c,(T7 n sc.names []).lookup x=some c:=by have q:=vV sc.names n [] (.inl h);exact Zo.mp q
def vD{s I:d9}{E:XK}
  (S:C6 N ps scope) (hd:A.handled=none) (e0:zN P w K mg base A d s H) (R:vs.length=ps.length) (r:J9 vs us)
  (x:InCallC s s.heap.objs.size (Kj (bo g scope s.heap.objs.size f cd).kindOf (ps.zip us) λ_=>none) (T7 (s.heap.objs.size+1) scope.names []) (Kk (bo g scope s.heap.objs.size f cd).kindOf (ps.zip us) λ_=>none) I):
  D1 (gw D P w K mg base N g scope f cd A d s H E) [] (start N vs) H I:=by
 have M:ps.length<=N.length:=by have:=Zu nz S.pre;rw[B0] at this;lia
 obtain⟨t,T,rfl,J⟩:=x.done;have l:∀b:Addr,b ∉ (gw D P w K mg base N g scope f cd A d s H E).ex:=λb z=>Zy (show b∈([]:List Addr) from z) (by simp);refine⟨⟨e0.mod,S.kind,rfl,rfl,i4 _,λy z c t j=>?_,λy m=>?_,λy c _ h=>?_,λ_=>hd,Cp e0.frames,.inr ⟨rfl,rfl⟩,λb z=>Zy z (l b),e0.bs,e0.bsz,λb _ _=>l b,λb z=>Zy z (l b),e0.funs,e0.frf⟩,
  rfl,e0.bare,Un.kept J,⟨_,x.toInCall.ns,λi y v t j U=>?_⟩,λy c h=>⟨_,x.cell y c h⟩,e0.hok.fresh (i4 _),λy c h=>?_,λp n=>Zy (show p∈([]:List (Addr × Obj)) from n) (by simp),e0.hok.kept J,?_⟩
 .exact name_of_addr x.apart (cS t) (cS j)
 .have m:scope.names.lookup y=some .cell ∨ scope.names.lookup y=some .free:=m;obtain m|m:=m
  .exact oH m
  .exact Zy rfl (S.nofree _ (cS m))
 .exact aJ (x.above y c (cS h))
 .have B:i<vs.length:=by
   unfold start at j;by_cases B:i<vs.length
   .exact B
   .rw[jf (by simpa using B)] at j;rw[List.getElem?_replicate] at j;split at j <;> cases j
  have O:vs[i]?=some v:=by
   unfold start at j;rw[jC (by simpa using B),w6] at j;cases e:vs[i]? with
   | none=>rw[e] at j;cases j
   | some a=>rw[e] at j;cases j;rfl
  obtain⟨u,L,Q⟩:=r.get O;have n:ps[i]?=some y:=by rw[<- S.pre,List.getElem?_take_of_lt (by lia)];exact t
  have o:ps.Nodup:=by rw[<- S.pre];exact S.nd.sublist (Lg _ _)
  refine⟨u,Q,?_⟩;obtain k|k:=S.par y (r0 n)
  .exact .inl ⟨k,vL o n L k⟩
  .obtain⟨c,e⟩:=oH (n:=s.heap.objs.size+1) k;refine .inr ⟨.inl k,c,e,?_⟩;have q:=x.cell y c e;rw[vN o n L (by show scope.names.lookup y≠_;rw[k];decide)] at q;exact q
 .exact e0.hok.fresh (aJ (x.above y c (cS h)))
 .unfold start;show _=N.length;rw[y9,d8,List.length_replicate];lia
def JI{Y kV z Z d ct oc:b9}{an od:Option Addr}
  {L:Array (Option b9)}{N:List Str}{sp:Sp} (lk:K.lookup f=some ⟨oc,od,.func (dB name c g body scope Y kV z Z an d ct),L⟩) (M:ic K d c=true) (S:C6 N ps scope)
  (len:∀vs H Q E,sp vs H Q E->vs.length=ps.length)
  (l:∀(A:A3) (a:List Env) (s:d9) (H:Hp) (vs:List V) (Q:VK) (E:XK),bD k (A.deeper (bo c scope s.heap.objs.size f d))->sp vs H Q E ->
   ∃t,ur (gw D P w K mg base N c scope f d A a s H E) body t/\t { nx:=λ_ j=>Q .non j,rt:=Q } (start N vs) H):
  K6 P w K mg base D (k+1) f (dB name c g body scope Y kV z Z an d ct) ps sp:=by
 refine⟨len,λA a s H a0 us vs Q E O e0 hb r B=>?_⟩;have hl:=len _ _ _ _ B;have KX:K.In s.heap:=e0.mod.kin.keeps λb o e=>(e0.bs b o e).1;have R:s.heap.NoLimit:=e0.mod.nolimit.keeps λb o e=>(e0.bs b o e).1;have m:∀y∈ps.zip us,scope.names.lookup y.1=some .local ∨ (scope.names.lookup y.1=some .cell/\((T7 (s.heap.objs.size+1) scope.names []).lookup y.1).isSome=true):=λ⟨n,v⟩ hy=>by
  obtain q|q:=S.par n (lW hy).1
  .exact .inl q
  .exact .inr ⟨q,vV _ _ _ (.inl q)⟩
 refine Nm O.depth (KX _ _ lk) rfl S.co S.gen rfl (W.codeRec_of KX M) (hb _ _ _ _ ?_);refine DK S.kind m λa1 he s1 x=>?_;subst he;refine⟨R.keeps x.toInCall.keep,codeAny_func ?_⟩;obtain⟨t,ht,hq⟩:=l A a s H vs Q E (O.deeper _) B;have I:D1 (gw D P w K mg base N c scope f d A a s H E) [] (start N vs) H s1:=vD S O.hd e0 hl r x;refine C4 (ht [] s1 (start N vs) H _ I hq) (λfl T p=>?_) λe T p=>p;have fin:∀{i:St}{j:Hp}{v:V}{u:b9},D1 (gw D P w K mg base N c scope f d A a s H E) [] i j T->K3 v u->Q v j->CE a P w H s Q u T :=
  λ{i j v u} J U q=>⟨v,j,J.os,J.bare,J.base,J.hok,U,q⟩
 cases fl with
 | ret u =>
  obtain⟨v,i,j,J,U,q⟩:=p;exact fin J U q
 | next =>
  obtain⟨i,j,J,q⟩:=p;exact fin (v:=V.non) (u:=B4) J rfl q
 | brk =>
  obtain⟨_,_,_,q⟩:=p;exact G3 q
 | cont =>
  obtain⟨_,_,_,q⟩:=p;exact G3 q
section
variable {p pos:Pos}{id T:String}
def UA (r:List V->Hp->VK->Prop) (t:TA):TE:=λσ H Q=>t σ H λa c=>r a c Q
def D4 (f:cN X (.builtin id) r) (g:Gl X x) (i:X.mg x=none) (j:aV x=some (.builtin id)) (k:PA X (e::es) t) (l:x≠"__name__":=by decide) (c:(x == ("__debug__":Str))=false:=by decide)
  (m:B9 (e::es) X.env=(false,eval e X.env)::B9 es X.env:=by rfl) (d:(Z7 pos (B9 es X.env)).any (·.1)=false:=by rfl):PE X (.Call (.Name x p) (e::es) [] pos) (UA r t):=by
 intro a s σ H Q I h;refine cm (pP I g i j ?_ l c);exact PyProof.Rows.callWith_builtin1 (S6 (k pos a s σ H _ I h) λus n ⟨o,q,v,y,z⟩=>f a n σ q o us Q v y z) m d
def G9 (f:cN X (.type T) r) (g:Gl X x) (i:X.mg x=none) (j:aV x=some (.type T)) (k:PA X (e::es) t) (l:x≠"__name__":=by decide) (c:(x == ("__debug__":Str))=false:=by decide)
  (m:B9 (e::es) X.env=(false,eval e X.env)::B9 es X.env:=by rfl) (d:(Z7 pos (B9 es X.env)).any (·.1)=false:=by rfl):PE X (.Call (.Name x p) (e::es) [] pos) (UA r t):=by
 intro a s σ H Q I h;refine cm (pP I g i j ?_ l c);exact bp (S6 (k pos a s σ H _ I h) λus n ⟨o,q,v,y,z⟩=>f a n σ q o us Q v y z) m d
end
end L2
namespace HT
open PySem PyProof.Rows
def ah:List Int->List Int->Bool
 | [],[]=>false
 | [],_::_=>true
 | _::_,[]=>false
 | x::a,y::b=>if x=y then ah a b else decide (x<y)
def jS (x y:Int) (xs ys:List Int):ah (x::xs) (y::ys)=if x=y then ah xs ys else decide (x<y):=rfl
def uG:ah [] []=false:=rfl
def gX (y:Int) (ys:List Int):ah [] (y::ys)=true:=rfl
def dN (x:Int) (xs:List Int):ah (x::xs) []=false:=rfl
def JL (A:A3) (s:d9) (a:Int) (t:Tok) (c:Int) (u:Tok):∃e,oS A s (.int a t) (.int c u) e/\(e=true ↔ a=c):=
 ⟨(a == c),mj a t c u,by simp⟩
def HS (A:A3) (s:d9) (a:Int) (t:Tok) (c:Int) (u:Tok) (prog:j0) (w:w5) (E:b9->d9->Prop) (Q:b9->d9->Prop) (h:Q (.bool (decide (a<c))) s):
  j8 (n6 prog w) A (richCompare .Lt (.int a t) (.int c u)) Q E s :=
 (PyProof.Rows.lt_int h:j8 (n6 prog w) A (P7 .Lt (.int a t) (.int c u)) Q E s)
section
open PySem.SeqAt
open PySem.AutoSeq1 (wpAny_loadPart')
open PySem.MeetsSeq PySem.MeetsSeq2 PySem.MeetsSeq3
def uB (l b:Addr) (items f:Array b9) (n N:Nat) (dd D:Option Addr) (sl E:Array (Option b9)) (ns ms:List Int) (K:bH items.toList ns) (L:bH f.toList ms):
  Meets (iw.«tuple.__lt__» ⟨[.ref l,.ref b],[]⟩)
   (λ_ R s=>s.heap.get? l=some { cls:=.type "tuple",dict:=dd,data:=.seq items n,slots:=sl }/\s.heap.get? b=some { cls:=.type "tuple",dict:=D,data:=.seq f N,slots:=E } /\
    R (.ok (.ret (.bool (ah ns ms)))) s):=
 .of_wp λk w A R s h=>by
  obtain⟨v,g,d,z,os⟩:=s;obtain⟨O,P,h⟩:=h;have V:=AutoSeq1.sub_tuple_tuple;have z1:items.size=ns.length:=by rw[<- K.length];simp
  have z2:f.size=ms.length:=by rw[<- L.length];simp
  wp_walk using oM O,oM P,wpAny_forIn_list _ (λaW b H=>b.1=none/\H=⟨v,g,d,z,os⟩/\∃(B C:List b9) (i j:List Int),aW=B.zip C /\
   bH B i/\bH C j/\i.length+f.size=j.length+items.size/\R (.ok (.ret (.bool (ah i j)))) ⟨v,g,d,z,os⟩) _
  case turn =>
   rintro⟨y,x⟩ aW b H ⟨hb',rfl,B,C,i,j,hz,hvi,hwi,hlen,hR⟩;cases hvi with
   | nil=>rw[List.zip_nil_left] at hz;cases hz
   | cons a t p =>
    cases hwi with
    | nil=>rw[List.zip_nil_right] at hz;cases hz
    | cons c u r =>
     rw[bF] at hz;injection hz with I o
     injection I with Q S
     subst Q S;rw[jS] at hR;simp only[n5] at hlen;obtain⟨e,T,m⟩:=JL A.in1 ⟨v,g,d,z,os⟩ a t c u;refine b7 (T k w _ _ ?_);cases e with
     | true =>
      rw[ZB (m.mp rfl)] at hR
      wp_walk
      exact⟨rfl,rfl,_,_,_,_,o,p,r,by lia,hR⟩
     | false =>
      rw[ZC (λq=>Zy (m.mpr q) v8)] at hR;have J:=HS A.in1 ⟨v,g,d,z,os⟩ a t c u k w
      wp_walk using J
      exact⟨_,rfl,by simpa using hR⟩
  case fin =>
   rintro⟨b1,b2⟩ H ⟨hb',rfl,B,C,i,j,hz,hvi,hwi,hlen,hR⟩;simp only at hb';subst hb';have M:ah i j=decide (items.size<f.size):=by
    cases hvi with
    | nil =>
     cases hwi with
     | nil =>
      simp only[aF] at hlen;rw[uG];exact(Zz (by lia)).symm
     | cons c u U =>
      simp only[aF,n5] at hlen;rw[gX];exact(ZA (by lia)).symm
    | cons a t M =>
     cases hwi with
     | nil =>
      simp only[aF,n5] at hlen;rw[dN];exact(Zz (by lia)).symm
     | cons c u U =>
      rw[bF] at hz;cases hz
   rw[M] at hR
   wp_walk
   exact⟨_,rfl,by simpa [Builtin.Tuple.tupleCompareSizes] using hR⟩
  case h =>
   exact⟨rfl,rfl,items.toList,f.toList,ns,ms,rfl,K,L,by lia,h⟩
end
def BG(o:Uv s.heap l items) (p:Uv s.heap b a) (q:bH items.toList ns) (r:bH a.toList ms)
  (t:A.units<fW) (h:Q (.bool (ah ns ms)) s):j8 (n6 prog w) A (P7 .Lt (.ref l) (.ref b)) Q E s:=by
 obtain⟨⟨cls,dd,data,sl⟩,i,j,n,k⟩:=id o;obtain⟨⟨m,f,data2,g⟩,c,d,u,e⟩:=id p;simp only at j k d e;subst j k d e;exact richCompare_meets_room (op:=.Lt) ⟨_,i,rfl⟩ ⟨_,c,rfl⟩ PySem.F.slot_tuple_lt PySem.F.entry_tuple_lt (PySem.F.args_tuple_lt_2 _ _) (uB l b items a n u dd f sl g ns ms q r)
  ⟨i,c,show R9 (ah ns ms)≠Value.notImplemented/\Q (.bool (ah ns ms)) s from ⟨(λx=>nomatch x),h⟩⟩ t
def wM (n d:Nat):Option Int->Nat
 | none=>d
 | some v=>if v<0 then (v+(n:Int)).toNat else min v.toNat n
def yF (n d:Nat):wM n d none=d:=rfl
def CJ (n d k:Nat):wM n d (some (k:Int))=min k n:=by show (if (k:Int)<0 then ((k:Int)+(n:Int)).toNat else min (k:Int).toNat n)=min k n;rw[ZC (by lia),M9]
end HT
namespace L2
open PySem PySem.Spec PyProof.Rows
abbrev TO:=St->Hp->(Option Int->Hp->Prop)->Prop
def PO (X:Cx) (e:Option Expr) (t:TO):Prop :=
 ∀(a:List (Addr × Obj)) (s:d9) (b:St) (H:Hp) (Q:Option Int->Hp->Prop),D1 X a b H s->t b H Q ->
  j8 (n6 X.prog X.w) X.A (evalPart e X.env) (λu d=>∃o c,D1 X a b c d/\IsPart u o/\Q o c) X.xe s
def wb:TO:=λ_ H Q=>Q none H
def Sh (t:TE):TO:=λa H Q=>t a H λx b=>∃i,x=.int i/\Q (some i) b
def tQ:∀{us:List b9},J9 (ns.map V.int) us->bH us ns:=by
 induction ns with
 | nil=>intro us r;rw[rg] at r;cases r;exact .nil
 | cons n ns a =>
  intro us r;rw[t8] at r;cases r with
  | cons b c =>
   obtain⟨t,e⟩:=b;subst e;exact .cons n t (a c)
section
variable {X:Cx}{e:Expr}{te:TE}{lo hi:Option Expr}{tl th:TO}{pos p2:Pos}
def aY:PO X none wb:=by intro a s b H Q I h;rw[evalPart_none];exact f9 ⟨none,H,I,.none,h⟩
def aX (h:PE X e te):PO X (some e) (Sh te):=by intro a s b H Q I c;rw[evalPart_some];refine S6 (h a s b H _ I c) λu k ⟨x,d,f,g,j⟩=>?_;obtain⟨i,rfl,q⟩:=j;obtain⟨t,rfl⟩:=g;exact⟨some i,d,f,.int i t,q⟩
def SlR (X:Cx) (r:V->Option Int->Option Int->Hp->VK->Prop):Prop :=
 ∀(a:List (Addr × Obj)) (s:d9) (b:St) (H:Hp) (x:V) (v c d:b9) (lo hi:Option Int) (sl:Addr) (Q:VK),D1 X a b H s->K3 x v->s.heap.IsSliceOf sl c d .none->IsPart c lo->IsPart d hi->r x lo hi H Q ->
  ∃T id,typeLookup (.type T) "__getitem__"=pure (some (.builtin id))/\s.TypeIs v T/\j8 (n6 X.prog X.w) X.A (Ck v (.ref sl)) (EP X a b Q) X.xe s
def tSl (r:V->Option Int->Option Int->Hp->VK->Prop) (te:TE) (tl th:TO):TE:=λa H Q=>te a H λx b=>tl a b λl c=>th a c λu d=>r x l u d Q
def Y9 {r:V->Option Int->Option Int->Hp->VK->Prop} (j:SlR X r) (k:PE X e te) (m:PO X lo tl) (n:PO X hi th):PE X (.Subscript e (.Slice lo hi none p2) pos) (tSl r te tl th):=by intro a s d H Q I h;refine RT (S6 (k a s d H _ I h) λv o ⟨x,p,t,w,y⟩=>?_);refine wpAny_Slice (S6 (m a o d p _ t y) λf z ⟨l,A,B,C,D⟩=>S6 (n a z d A _ B D) λg c ⟨u,i,E,J,K⟩=>?_);rw[evalPart_none];refine f9 ?_;have L:D1 X a d i { c with heap:=c.heap.push { cls:=.type "slice",data:=.fields #[f,g,.none] } }:=E.kept (t':=c.toks) λb ob q=>f6 _ q;obtain⟨T,id,hT,M,N⟩:=j a { c with heap:=c.heap.push { cls:=.type "slice",data:=.fields #[f,g,.none] } } d i x v f g l u c.heap.objs.size Q L w (Heap.IsSliceOf.new ..) C J K;show j8 (n6 X.prog X.w) X.A (FU e (.Slice lo hi none p2) v (.ref c.heap.objs.size)) (EP X a d Q) X.xe { c with heap:=c.heap.push { cls:=.type "slice",data:=.fields #[f,g,.none] } };exact tail_any (ops:=[.ref c.heap.objs.size,v]) M hT N (by with_unfolding_all rfl)
def qW (xs:List V) (lo hi:Option Int):List V:=(xs.drop (HT.wM xs.length 0 lo)).take (HT.wM xs.length xs.length hi - HT.wM xs.length 0 lo)
def zr (xs:List V) (lo hi:Option Int):(qW xs lo hi).length<=xs.length:=by unfold qW;rw[B0,J5];lia
end
def MA (n:Nat) (i:Int):Option Nat:=if 0<=i then (if i<n then some i.toNat else none) else if -(n:Int)<=i then some (i+n).toNat else none
def xB {a:Type} (xs:List a) (i:Int):Option a:=(MA xs.length i).bind λj=>xs[j]?
def Dk(h:MA n i=some j):seqIndex? i n=some j/\j<n/\-(n:Int)<=i/\i<n:=by
 unfold MA at h;by_cases b:0<=i
 .rw[ZB b] at h;by_cases a:i<n
  .rw[ZB a] at h;have e:i.toNat=j:=E8 h;exact⟨by rw[Oi b a,e],by lia,by lia,a⟩
  .rw[ZC a] at h;cases h
 .rw[ZC b] at h;by_cases a:-(n:Int)<=i
  .rw[ZB a] at h;have e:(i+n).toNat=j:=E8 h;exact⟨by rw[KI (by lia) a,e],by lia,a,by lia⟩
  .rw[ZC a] at h;cases h
def xA{v:a} (h:xB xs i=some v):∃j,seqIndex? i xs.length=some j/\xs[j]?=some v/\j<xs.length/\-(xs.length:Int)<=i/\i<xs.length:=by
 unfold xB at h;cases e:MA xs.length i with
 | none=>rw[e] at h;cases h
 | some j =>
  rw[e] at h;obtain⟨b,c,d,f⟩:=Dk e;exact⟨j,b,h,c,d,f⟩
def M7{j:Nat}{v:a} (h:xs[j]?=some v):xB xs (j:Int)=some v:=by
 have b:j<xs.length:=(ZW.mp h).1;have e:MA xs.length (j:Int)=some j:=by unfold MA;rw[ZB (by lia),ZB (by lia)];simp
 unfold xB;rw[e];exact h
def Nd (b:Expr):Prop:=∀o i,zR b false o i=operate [o,i] (Ck o i)
def RG (X:Cx) (r:R2):Prop :=
 ∀(value slice:Expr) (a:List (Addr × Obj)) (s:d9) (b:St) (H:Hp) (x y:V) (v u:b9) (Q:VK),D1 X a b H s->K3 x v->K3 y u->r x y H Q ->
  zR slice false v u=operate [v,u] (Ck v u)->j8 (n6 X.prog X.w) X.A (FU value slice v u) (EP X a b Q) X.xe s
def RF (X:Cx) (id:String) (r:V->List V->Hp->VK->Prop):Prop :=
 ∀(a:List (Addr × Obj)) (s:d9) (b:St) (H:Hp) (x:V) (c:List V) (v:b9) (d:List b9) (Q:VK),D1 X a b H s->K3 x v->J9 c d->r x c H Q ->
  j8 (n6 X.prog X.w) X.A (call (.builtin id) (v::d)) (EP X a b Q) X.xe s
section
variable {X:Cx}{a b:Expr}{ta tb:TE}{pos:Pos}
def R5 {r:R2} (d:RG X r) (e:PE X a ta) (f:PE X b tb) (hs:Nd b):PE X (.Subscript a b pos) (Eh r ta tb):=by intro c s g H Q I h;exact RT (QQ e f I h λv u i x y j k l m q=>d a b c i g j x y v u Q k l m q (hs _ _))
def SL (K:m9):R2:=λx y H Q=>∃p c i v,x=.ref p/\y=.int i/\jc K H p c/\xB c i=some v/\Q v H
def SK (K:m9):R2:=λx y H Q=>∃p c i v,x=.ref p/\y=.int i/\jb K H p c/\xB c i=some v/\Q v H
def rIxS:R2:=λx y H Q=>∃z i c,x=.str z/\y=.int i/\z.length<=j6/\xB z.cps.toList i=some c/\Q (.str ⟨#[c]⟩) H
def U8:RG X (SL X.K):=by
 intro value slice c s l H x y v u Q I A B h m;obtain⟨p,N,i,z,rfl,rfl,C,D,q⟩:=h;cases A;obtain⟨t,rfl⟩:=B;obtain⟨e,r,f,O⟩:=I.list C;obtain⟨j,d,E,P,J,K⟩:=xA D;obtain⟨w,n,g⟩:=r.get E;have L:=r.length;have R:=pM;have fin:EP X c l Q w s:=⟨z,H,I,g,q⟩
 by_cases o:0<=i
 .have k:i.toNat=j:=by rw[Oi o K] at d;exact E8 d
  exact item_listR f.isList o (by lia) (by rw[k];simpa using n) fin m
 .have k:(i+(e.toArray.size:Int)).toNat=j:=by rw[KI (by lia) J] at d;rw[A2,<- L];exact E8 d
  exact KG (x:=w) f.isList.typeIs slot_list_getitem.lookup
   (wpAny_getItem_list_neg (Q:=λr M=>r=w/\EP X c l Q r M) f.isList (by lia) (by rw[A2] <;> lia) (by lia) (by rw[k];simpa using n) ⟨rfl,fin⟩) m
def bW:RG X (SK X.K):=by
 intro value slice c s e H x y v u Q I g k h l;obtain⟨p,J,i,z,rfl,rfl,m,n,q⟩:=h;cases g;obtain⟨t,rfl⟩:=k;obtain⟨o,r,f,K⟩:=I.tuple m;obtain⟨j,A,B,L,M,N⟩:=xA n;obtain⟨w,C,d⟩:=r.get B;have D:=r.length;have O:=pM;have fin:EP X c e Q w s:=⟨z,H,I,d,q⟩
 exact KG (x:=w) f.typeIs slot_tuple_getitem.lookup
  (getItem_tuple (j:=j) (Q:=λr E=>r=w/\EP X c e Q r E) f (by lia) (by lia) (by rw[A2,<- D];exact A) (by simpa using C) ⟨rfl,fin⟩) l
def Jv:RG X rIxS:=by
 intro value slice d s r H x y v u Q I f g h k;obtain⟨z,i,c,rfl,rfl,w,l,q⟩:=h;obtain⟨t,rfl⟩:=f;obtain⟨A,rfl⟩:=g;obtain⟨j,e,m,B,n,o⟩:=xA l;have p:z.cps.toList.length=z.length:=by simp[Str.length]
 rw[p] at e n o;have C:=pM;exact tail_any (hZ s z t) slot_str_getitem.lookup (getItem_str (c:=c) (by have e1:decide (i < -(2 ^ 63:Int))=false:=Zz (by lia);have e2:decide (i ≥ 2 ^ 63)=false:=Zz (by lia);rw[e1,e2,oV]) (by rw[e];simpa using m) ⟨.str ⟨#[c]⟩,H,I.tok _,⟨_,rfl⟩,q⟩) k
def BC (c:List b9) (n j:Nat) (u:b9):S9 (·.setIfInBounds j u) { cls:=.type "list",data:=.seq c.toArray n }={ cls:=.type "list",data:=.seq (c.set j u).toArray n }:=by simp[S9]
theorem D1.lst {d:List (Addr × Obj)}{f:St}{H:Hp}{s:d9}{p:Addr}{xs:List V} (I:D1 X d f H s) (h:H p=some (.lst xs)):
  ∃(c:List b9) (n:Nat),J9 xs c/\s.heap.get? p=some { cls:=.type "list",data:=.seq c.toArray n }/\xs.length<=j6:=by
 obtain⟨z,c,n,r,e⟩:=I.hok p _ h;exact⟨c,n,r,e,z⟩
def D1.lstUpd{i:St}{d its':List b9} (I:D1 X c i H s) (h:H p=some (.lst xs))
  (k:s.heap.get? p=some { cls:=.type "list",data:=.seq d.toArray n }) (j:f { cls:=.type "list",data:=.seq d.toArray n }={ cls:=.type "list",data:=.seq its'.toArray g }) (r:J9 ys its') (hz:ys.length<=j6) (t:Nat):
  D1 X c i (C3 H p (.lst ys)) { s with heap:=s.heap.update p f,toks:=t }:=by
 have e:(s.heap.update p f).get? p=some { cls:=.type "list",data:=.seq its'.toArray g }:=by rw[K2 f k (by rw[j] <;> rfl),j]
 refine I.write (x:=p) (e:=p) (by rw[h];trivial) (.inl rfl) (λb u l q=>(E2 _ _ (G2 l)).trans q) ⟨_,e⟩ ?_;exact⟨hz,its',g,r,e⟩
def SH:V->V->V->Hp->(Hp->Prop)->Prop:=λo i v H Q=>∃p c k j,o=.ref p/\i=.int k/\H p=some (.lst c)/\MA c.length k=some j/\Q (C3 H p (.lst (c.set j v)))
def si:TR X SH:=by
 intro c s A H o i v L M u Q I B C D h;obtain⟨p,E,k,j,rfl,rfl,m,J,q⟩:=h;cases B;obtain⟨t,rfl⟩:=C;obtain⟨d,n,r,f,K⟩:=I.lst m;obtain⟨e,N,w,x⟩:=Dk J;have g:=r.length;have O:=pM;have y:D1 X c A (C3 H p (.lst (E.set j v))) { s with heap:=s.heap.update p (S9 (·.setIfInBounds j u)) } :=
  I.lstUpd m f (BC d n j u) (r.set D j) (by rw[lY];exact K) s.toks
 by_cases z:0<=k
 .have l:k.toNat=j:=by rw[Oi z x] at e;exact E8 e
  exact W.ki_setAt f z (by lia) (by rw[A2,<- g];exact x) (by rw[l];exact⟨_,y,q⟩)
 .have l:(k+(d.toArray.size:Int)).toNat=j:=by rw[KI (by lia) w] at e;rw[A2,<- g];exact E8 e
  exact W.ki_setBack f (by lia) (by rw[A2,<- g];exact w) (by lia) (by rw[l];exact⟨_,y,q⟩)
def wx (lo c:Option Int) (n:Nat):(iM lo c none n).1=((HT.wM n 0 lo:Nat):Int)/\(iM lo c none n).2.1=((HT.wM n n c:Nat):Int)/\(iM lo c none n).2.2=1:=by
 refine⟨?_,?_,rfl⟩
 .cases lo with
  | none=>simp[iM,HT.wM]
  | some i =>
   simp only[iM,HT.wM,Kl,show (1:Int) > 0 by decide,if_true];by_cases h:i<0
   .simp only[h,if_true] <;> lia
   .simp only[h,Zq] <;> lia
 .cases c with
  | none=>simp[iM,HT.wM]
  | some i =>
   simp only[iM,HT.wM,Kl,show (1:Int) > 0 by decide,if_true];by_cases h:i<0
   .simp only[h,if_true] <;> lia
   .simp only[h,Zq] <;> lia
def uC (c:List b9) (lo d:Option Int):slicePick c.toArray lo d none=((c.drop (HT.wM c.length 0 lo)).take (HT.wM c.length c.length d - HT.wM c.length 0 lo)).toArray:=by obtain⟨e,f,g⟩:=wx lo d c.toArray.size;unfold slicePick;rw[e,f,g];simp only[sliceRange_one,pick_run,A2] <;> rfl
def rSlL (K:m9):V->Option Int->Option Int->Hp->VK->Prop:=λx lo d H Q=>∃a c,x=.ref a/\jc K H a c/\∀p,H p=none->Q (.ref p) (C3 H p (.lst (qW c lo d)))
def wz:SlR X (rSlL X.K):=by intro f s p H x v t u lo e sl Q I i j k l h;obtain⟨a,c,rfl,m,q⟩:=h;cases i;obtain⟨n,r,g,o⟩:=I.list m;have d:=r.length;refine⟨"list",_,slot_list_getitem.lookup,g.isList.typeIs,?_⟩;refine wpAny_getItem_list_slice g.isList j k l .none (by simp) ?_ (by rw[A2] <;> lia);rw[uC,<- d];refine⟨.ref s.heap.objs.size,_,I.laid (t':=s.toks) (o:=.lst (qW c lo e)) (λb ob q=>f6 _ q) (i4 _) ?_,rfl,q _ (I.hok.fresh (i4 _))⟩;exact⟨j9 (zr c lo e) o,_,0,(r.drop (HT.wM c.length 0 lo)).take (HT.wM c.length c.length e - HT.wM c.length 0 lo),j7 _ rfl⟩
def oE:V->Bool
 | .non=>true
 | .bl _=>true
 | .int _=>true
 | .str _=>true
 | _=>false
def Ky:V->V->Bool
 | .non,.non=>true
 | .bl a,.bl b=>a == b
 | .bl a,.int b=>(if a then 1 else 0) == b
 | .int a,.bl b=>a == (if b then 1 else 0)
 | .int a,.int b=>a == b
 | .str a,.str b=>a == b
 | _,_=>false
def QJ(e:K3 y u) (c:K3 x v) (g:oE y=true) (f:oE x=true):oS A s u v (Ky y x):=by
 cases y with
 | non =>
  cases e;cases x with
  | non=>cases c;exact qc _
  | bl b=>cases c;exact SeqAt.EqAt.none_bool b
  | int b=>obtain⟨t,rfl⟩:=c;exact SeqAt.EqAt.none_int b t
  | str b=>obtain⟨t,rfl⟩:=c;exact SeqAt.EqAt.none_str b t
  | _=>exact Zy (show false=true from f) v8
 | bl a =>
  cases e;cases x with
  | non=>cases c;exact SeqAt.EqAt.bool_none a
  | bl b=>cases c;exact xI a b
  | int b=>obtain⟨t,rfl⟩:=c;exact SeqAt.EqAt.bool_int a b t
  | str b=>obtain⟨t,rfl⟩:=c;exact SeqAt.EqAt.bool_str a b t
  | _=>exact Zy (show false=true from f) v8
 | int a =>
  obtain⟨d,rfl⟩:=e;cases x with
  | non=>cases c;exact SeqAt.EqAt.int_none a d
  | bl b=>cases c;exact SeqAt.EqAt.int_bool a d b
  | int b=>obtain⟨t,rfl⟩:=c;exact mj a d b t
  | str b=>obtain⟨t,rfl⟩:=c;exact zW a d b t
  | _=>exact Zy (show false=true from f) v8
 | str a =>
  obtain⟨d,rfl⟩:=e;cases x with
  | non=>cases c;exact SeqAt.EqAt.str_none a d
  | bl b=>cases c;exact SeqAt.EqAt.str_bool a d b
  | int b=>obtain⟨t,rfl⟩:=c;exact zU a d b t
  | str b=>obtain⟨t,rfl⟩:=c;exact SeqAt.EqAt.str_str a d b t
  | _=>exact Zy (show false=true from f) v8
 | _=>exact Zy (show false=true from g) v8
def MN (x:V) (u:b9):Bool:=match u with
 | .none=>Ky .non x
 | .bool b=>Ky (.bl b) x
 | .int i _=>Ky (.int i) x
 | .str z _=>Ky (.str z) x
 | _=>false
def JK(r:K3 y u) (f:oE y=true):MN x u=Ky y x:=by
 cases y with
 | non=>cases r;rfl
 | bl b=>cases r;rfl
 | int i=>obtain⟨t,rfl⟩:=r;rfl
 | str z=>obtain⟨t,rfl⟩:=r;rfl
 | _=>exact Zy (show false=true from f) v8
theorem xC {x:V}:∀{xs:List V}{us:List b9},J9 xs us->xs.all oE=true->us.any (MN x)=xs.any λy=>Ky y x
 | _,_,.nil,_=>rfl
 | y::xs,u::us,.cons r t,f=>by rw[kc,A4] at f;rw[bS,bS,JK r f.1,xC t f.2]
theorem sW {A:A3}{s:d9}{x:V}{v:b9} (d:K3 x v) (e:oE x=true):∀{xs:List V}{us:List b9},J9 xs us->xs.all oE=true->∀u∈us,oS A s u v (MN x u)
 | _,_,.nil,_=>λu c=>by cases c
 | y::xs,u::us,.cons r t,f=>λg c=>by
  rw[kc,A4] at f;obtain rfl|c:=C7.mp c
  .rw[JK r f.1];exact QJ r d f.1 e
  .exact sW d e t f.2 g c
def inV (x:V) (xs:List V):Bool:=xs.any λy=>Ky y x
def rIn (K:m9) (neg:Bool):R2:=λx y H Q=>∃p c,y=.ref p/\(jc K H p c ∨ jb K H p c)/\oE x=true/\c.all oE=true/\Q (.bl (if neg then !inV x c else inV x c)) H
def EA:nj X (P7 .In) (rIn X.K false):=by
 intro g s m H x y v u Q I i k h;obtain⟨p,n,rfl,d,j,fs,q⟩:=h;cases k;obtain d|d:=d
 .obtain⟨c,r,e,l⟩:=I.list d;refine SeqAt.in_listAt (MN x) e.isList (λw f=>sW i j r fs w (by simpa using f)) ⟨.bl _,H,I,rfl,?_⟩;rw[show c.toArray.any (MN x)=c.any (MN x) by simp,xC r fs];exact q
 .obtain⟨c,r,e,l⟩:=I.tuple d;refine SeqAt.in_tupleAt (MN x) e (λw f=>sW i j r fs w (by simpa using f)) ⟨.bl _,H,I,rfl,?_⟩;rw[show c.toArray.any (MN x)=c.any (MN x) by simp,xC r fs];exact q
def R1:cN X (.builtin "len") (λj H Q=>∃p d,j=[.ref p]/\(jc X.K H p d ∨ jb X.K H p d)/\Q (.int d.length) H):=by
 intro k s n H j o Q I r h;obtain⟨p,d,rfl,e,q⟩:=h;obtain⟨u,rfl,l⟩:=kg r;cases l;have t:=pM;obtain e|e:=e
 .obtain⟨f,g,i,m⟩:=I.list e;have c:=g.length;exact Calls.call_len_list i.isList (by simp only[A2] <;> lia) ⟨.int d.length,H,I.tok _,⟨s.toks+1,by rw[A2,c]⟩,q⟩
 .obtain⟨f,g,i,m⟩:=I.tuple e;have c:=g.length;exact len_tuple i (by simp only[A2] <;> lia) ⟨.int d.length,H,I.tok _,⟨s.toks+1,by rw[A2,c]⟩,q⟩
def gx:cN X (.builtin "len") (λc H Q=>∃z,c=[.str z]/\z.length<=j6/\Q (.int z.length) H):=by intro d s e H c f Q I r h;obtain⟨z,rfl,g,q⟩:=h;obtain⟨u,rfl,t,rfl⟩:=kg r;have i:=pM;exact len_str (by lia) ⟨.int z.length,H,I.tok _,⟨_,rfl⟩,q⟩
def xv:cN X (.type "list") (λA H Q=>∃p f,A=[.ref p]/\(jc X.K H p f ∨ jb X.K H p f)/\∀l,H l=none->Q (.ref l) (C3 H l (.lst f))):=by
 intro j s C H A E Q I r h;obtain⟨p,f,rfl,k,q⟩:=h;obtain⟨u,rfl,D⟩:=kg r;cases D;have fin:∀(c:List b9),J9 f c->f.length<=j6->∀(d:Heap) (g:Nat),(∀b B,s.heap.get? b=some B->d.get? b=some B) ->
   d.get? s.heap.objs.size=some { cls:=.type "list",dict:=none,data:=.seq c.toArray g,slots:=#[] }->EP X j C Q (.ref s.heap.objs.size) { s with heap:=d }:=λc i m d g kp e =>
  ⟨.ref s.heap.objs.size,_,I.laid (t':=s.toks) kp (i4 _) (show O4 X.prog X.w _ d _ (.lst f) from ⟨m,c,g,i,e⟩),rfl,q _ (I.hok.fresh (i4 _))⟩
 obtain k|k:=k
 .obtain⟨c,i,v,m⟩:=I.list k;have t:=i.length;obtain⟨o,w,y,n,z⟩:=v.isList;exact call_list_seq p (.inl rfl) w y z (λd g kp e=>fin c i m d g kp e) (by simp only[A2] <;> lia)
 .obtain⟨c,i,v,m⟩:=I.tuple k;have t:=i.length;obtain⟨o,w,y,n,z⟩:=v;exact call_list_seq p (.inr rfl) w y z (λd g kp e=>fin c i m d g kp e) (by simp only[A2] <;> lia)
def Q3:cN X (.type "tuple") (λm H Q=>∃p f,m=[.ref p]/\((jc X.K H p f/\∀l,H l=none->Q (.ref l) (C3 H l (.tup f))) ∨ (jb X.K H p f/\Q (.ref p) H))):=by
 intro c s n H m A Q I r h;obtain⟨p,f,rfl,h⟩:=h;obtain⟨u,rfl,y⟩:=kg r;cases y;obtain⟨i,q⟩|⟨i,q⟩:=h
 .obtain⟨d,j,k,t⟩:=I.list i;have v:=j.length;refine call_tuple_list k.isList (λg kp=>?_) (by simp only[A2] <;> lia);have w:D1 X c n H { s with heap:=g }:=I.kept (t':=s.toks) kp;have z:D1 X c n (C3 H g.objs.size (.tup f)) { s with heap:=g.push { cls:=.type "tuple",data:=.seq d.toArray } } :=
   w.laid (t':=s.toks) (λb o e=>f6 _ e) (i4 _) (show O4 X.prog X.w _ _ _ (.tup f) from ⟨⟨t,⟨_,j7 _ rfl,rfl⟩⟩,d,j,IsTup.new _ _⟩)
  exact⟨.ref g.objs.size,_,z,rfl,q _ (w.hok.fresh (i4 _))⟩
 .obtain⟨d,j,k,t⟩:=I.tuple i;exact call_tuple_same k ⟨.ref p,H,I,rfl,q⟩
def tyV (K:m9) (T:String) (x:V) (H:Hp):Prop:=match x with
 | .str _=>T="str"
 | .int _=>T="int"
 | .ref p=>(T="list"/\∃d,jc K H p d) ∨ (T="tuple"/\∃o,K.lookup p=some o/\o.cls=.type "tuple"/\o.dict=none) ∨
   (T="dict"/\((∃c,H p=some (.dK c)) ∨ ∃c,H p=some (.dT c))) ∨ (T="set"/\∃S n,H p=some (.set S n))
 | _=>False
def OB{l:St} (I:D1 X g l H s) (r:K3 x v) (ty:tyV X.K T x H):
  s.TypeIs v T/\∀a,v=.ref a->∃ob,s.heap.get? a=some ob/\ob.dict=none:=by
 cases x with
 | str z =>
  obtain⟨t,rfl⟩:=r;cases (show T="str" from ty);exact⟨hZ s z t,λ_ e=>nomatch e⟩
 | int i =>
  obtain⟨t,rfl⟩:=r;cases (show T="int" from ty);exact⟨typeIs_int s i t,λ_ e=>nomatch e⟩
 | ref p =>
  cases r;obtain⟨rfl,w,m⟩|⟨rfl,o,d,q,h⟩|⟨rfl,d⟩|⟨rfl,S,n,d⟩:=ty
  .obtain⟨u,_,k,_⟩:=I.list m;refine⟨k.isList.typeIs,λa e=>?_⟩;cases e;obtain⟨o,n,e,c,h,_⟩:=k;exact⟨o,e,h⟩
  .refine⟨⟨o,I.kIn p o d,q⟩,λa e=>?_⟩;cases e;exact⟨o,I.kIn _ o d,h⟩
  .have z:∃o,s.heap.get? p=some o/\o.ExactDict:=by
    obtain⟨j,d⟩|⟨j,d⟩:=d
    .obtain⟨_,_,_,_,o,_,_,e,f,_⟩:=I.hok p _ d;exact⟨o,e,f⟩
    .obtain⟨_,_,_,_,o,_,_,e,f,_⟩:=I.hok p _ d;exact⟨o,e,f⟩
   obtain⟨o,e,f⟩:=z;refine⟨⟨o,e,f.1⟩,λa e2=>?_⟩;cases e2;exact⟨o,e,f.2.1⟩
  .obtain⟨o,_,_,_,e,f,_⟩:=I.hok p _ d;refine⟨⟨o,e,f.1⟩,λa e2=>?_⟩;cases e2;exact⟨o,e,f.2.1⟩
 | _=>exact G3 ty
def tBM (K:m9) (T:String) (r:V->List V->Hp->VK->Prop) (to:TE) (t:TA):TE:=λc H Q=>to c H λx d=>tyV K T x d/\t c d λe f=>r x e f Q
variable {apos cpos:Pos}{T id:String}
def cz (q:PlainAttrs T) (i:Slot T name id) (k:typeOf (.builtin id)=pure (.type "method_descriptor")) (u:RF X id r) (w:PE X o to) (y:PA X (e::es) t)
  (f:eI o name X.env (eval o X.env)=eval o X.env:=by rfl)
  (j:((Z7 cpos (B9 (e::es) X.env)).all (λx=>!x.1)&&(vU cpos (lC [] X.env)).all (λx=>x.1.isSome)
   && decide ((e::es).length+([]:List rh).length+(if ([]:List rh).isEmpty then 0 else 1)<30))=true:=by rfl)
  (g:(apos.endLine == cpos.line)=true:=by rfl) (hs:B9 (e::es) X.env=(false,eval e X.env)::B9 es X.env:=by rfl) (d:(Z7 cpos (B9 es X.env)).any (·.1)=false:=by rfl):
  PE X (.Call (.Attribute o name apos) (e::es) [] cpos) (tBM X.K T r to t):=by
 intro c s l H Q I h;refine wpAny_Call_method_late f j g rfl (S6 (w c s l H _ I h) λv z ⟨x,A,m,n,ty,B⟩=>?_);obtain⟨C,D⟩:=OB m n ty;refine⟨T,id,q,i,k,C,D,?_⟩;have p:=y cpos c z l A _ m B;rw[hs] at p ⊢;refine bB (by show (false || (Z7 cpos (B9 es X.env)).any (·.1))=false;rw[d] <;> rfl) (gh ?_);exact S6 p λE J ⟨K,L,M,N,O⟩=>u c J l L x K v E Q M n N O
end
def MtM (X:Cx) (id:String) (r:V->List V->Hp->VK->Prop):Prop :=
 ∀(a:List (Addr × Obj)) (s:d9) (b:St) (H:Hp) (x:V) (c:List V) (v:b9) (d:List b9) (Q:VK),D1 X a b H s->K3 x v->J9 c d->r x c H Q ->
  j8 (n6 X.prog X.w) X.A (call (.builtin id) (v::d)) (EP X a b Q) X.xe s
theorem J9.one:∀{x:V}{us:List b9},J9 [x] us->∃u,us=[u]/\K3 x u
 | _,_,.cons r .nil=>⟨_,rfl,r⟩
section
variable {σ:St}
def D1.lset{a its':List b9} (I:D1 X pins σ H s) (c:H l=some (.lst xs))
  (e:s.heap.get? l=some { cls:=.type "list",data:=.seq a.toArray n }) (d:f a.toArray=its'.toArray) (g:J9 ys its') (hz:ys.length<=j6):
  D1 X pins σ (C3 H l (.lst ys)) { s with heap:=s.heap.update l (S9 f),toks:=t' }:=by
 have q:=PySem.IsL.update e f;rw[d] at q;refine I.write (x:=l) (e:=l) (by rw[c];exact trivial) (.inl rfl) (λj u h i=>(E2 s.heap (S9 f) (G2 h)).trans i) ⟨_,q⟩ ?_;exact⟨hz,its',_,g,q⟩
def D1.lnew(I:D1 X pins σ H s) (c:J9 ys a) (hz:ys.length<=j6):
  D1 X pins σ (C3 H s.heap.objs.size (.lst ys)) { s with heap:=s.heap.push { cls:=.type "list",data:=.seq a.toArray },toks:=t' } :=
 I.laid (λ_ _ q=>f6 _ q) (i4 _) ⟨hz,a,0,c,j7 _ rfl⟩
theorem D1.fresh (I:D1 X pins σ H s):H s.heap.objs.size=none:=I.hok.fresh (i4 _)
def D1.lstM (I:D1 X pins σ H s) (c:H l=some (.lst xs)):xs.length<=j6/\∃(a:List b9) (n:Nat),J9 xs a/\xs.length=a.length/\s.heap.get? l=some { cls:=.type "list",data:=.seq a.toArray n }:=by obtain⟨z,a,n,r,e⟩:=I.hok l _ c;exact⟨z,a,n,r,r.length,e⟩
end
def CM:V->List V->Hp->VK->Prop:=λx b H Q=>∃l a y,x=.ref l/\b=[y]/\H l=some (.lst a)/\a.length<j6/\Q .non (C3 H l (.lst (a++[y])))
def eT:MtM X "list.append" CM:=by intro b s i H x j v k Q I d f h;obtain⟨l,m,y,rfl,rfl,c,o,q⟩:=h;cases d;obtain⟨u,rfl,g⟩:=f.one;obtain⟨z,a,n,r,p,e⟩:=I.lstM c;refine uw F.slot_list_append ⟨_,e,rfl⟩ F.entry_list_append (F.args_list_append_2 _ _) (PySem.list_append l a.toArray n u (by rw[A2];lia)) ⟨e,?_⟩;refine⟨.non,_,I.lset (its':=a++[u]) c e (by simp) (r.append (.cons g .nil)) ?_,rfl,q⟩;rw[y9,List.length_singleton];lia
def HV:R2:=λx y H Q=>∃l b a c,x=.ref l/\y=.ref b/\H l=some (.lst a)/\H b=some (.lst c)/\a.length+c.length<=j6/\∀p,H p=none->Q (.ref p) (C3 H p (.lst (a++c)))
def bV:nj X (fX .Add) HV:=by
 intro d s p H x y v u Q I f g h;obtain⟨l,b,t,w,rfl,rfl,i,j,A,q⟩:=h;cases f;cases g;obtain⟨z,c,n,r,B,e⟩:=I.lstM i;obtain⟨z2,a,C,k,m,e2⟩:=I.lstM j;refine PySem.P.add_list e e2 ?_ (by rw[A2,A2];lia);have o:c.toArray++a.toArray=(c++a).toArray:=by simp
 rw[o];exact⟨.ref _,_,I.lnew (t':=s.toks) (r.append k) (by rw[y9];lia),rfl,q _ I.fresh⟩
section
variable {prog:j0}{w:w5}{A:A3}{E:b9->d9->Prop}{s:d9}
set_option maxRecDepth 100000 in
end
section
variable {X:Cx}
end
end L2
namespace Att
open PySem PySem.W PySem.Calls PyProof.Rows
def qV:∀(ns:List Int) (vs:List b9),WellAll P h vs (ns.map WData.int)->bH vs ns:=by
 intro ns;induction ns with
 | nil =>
  intro vs w;rw[rg] at w;cases w;exact .nil
 | cons n ns c =>
  intro vs w;rw[t8] at w;cases w with
  | cons a b =>
   cases a;exact .cons _ _ (c _ b)
def Ep{l:OpenLaw} (p:l.most=some n) 
  (c:l.row.toRowW.claim.pre args=true) (j:WellAll P h b args):
  ∃a m ns,b=[r6 a]/\args=[WData.list (ns.map WData.int)]/\h.get? a=some { cls:=.type "list",data:=.seq m.toArray }/\bH m ns/\ns.length<=n:=by
 have k:WShape.hasAll [] args [.list .int]=true:=(pre_splitW c).1;have o:l.pre.holds [] { args:=args }=true:=(pre_splitW c).2;obtain⟨d,r,rfl,s,t⟩:=hasAllW_cons k;obtain rfl:=hasAllW_nil t;obtain⟨z,rfl,u⟩:=hasW_list s;obtain⟨ns,rfl⟩:=items_int u;have e:ns.length<=n:=by
  unfold OpenLaw.pre at o;have g:(WTm.not (.lt (.lit (.int (n:Int))) (.len (.arg 0)))).holds [] { args:=[.list (ns.map .int)] }=true:=by have g:=(holds_andW o).1;rw[p] at g;exact g
  have i:=condW_of g (w_not (w_lt w_lit (w_len_list (w_arg rfl))));rw[d8] at i;refine Oo λq=>?_;have v:(n:Int)<((ns.length:Nat):Int):=by lia
  first
   | (rw[ZA v] at i;exact Zy i (by decide))
   | (simp at i;lia)
 cases j with
 | cons w x =>
  cases x;cases w with
  | list y f=>exact⟨_,_,ns,rfl,rfl,y,qV ns _ f,e⟩
def Ey (l:OpenLaw) (args:List WData):l.row.toRowW.claim.post args (.bool true) args=true :=
 postW_of (r:=l.row.toRowW) (X:=(true == true))
  (show Uq [] (.bool true) .bool=true by first|rfl|decide|simp[Uq,WShape.arms,WShape.armsAll])
  (show (WTm.eq .res (.lit (.bool true))).value [] { args:=args,res:=some (.bool true),after:=args }=some (.bool (true == true)) from w_eq_bool (w_res rfl) w_lit) rfl
def zJ{l:OpenLaw}
  (E:l.most=some n) (p:d.params.defaults=[])
  (call:∀(w:w5) (c b:d9) (mg s:Str->Option b9) (h:Addr) (o:Obj) (t cd e:b9) (a:Addr) (vs:List b9) (ns:List Int),
   Ground q loose [] y w c mg s b.heap->z w b.heap ->
   b.heap.get? h=some o->o.data=.func (docDef d.name d.params d.body d.scope t cd e)->b.heap.CodeRec cd d.name->mg d.name=some (.ref h) ->
   b.heap.get? a=some { cls:=.type "list",data:=.seq vs.toArray }->bH vs ns->ns.length<=n->b.gens=#[] ->
   Z2 (n6 l.prog w) vT (.call (.ref h) ⟨[.ref a],[]⟩) (λr m=>r=.ok (.ret (.bool true))/\OldK b.heap m.heap/\m.os=b.os/\lJ m.gens) b):
  WalkO q loose y z l.row.toRowW d [] (λf vs=>FX f vs):=by
 intro w c b mg s G Y h o t cd e H kV I J u A v K B C as i D L x M;obtain rfl:H=.none:=Dflts.none A p;obtain rfl:kV=.none:=Dflts.noKw A;obtain⟨a,vs,ns,rfl,rfl,j,g,k⟩:=Ep E i x;refine enter_call (dz (call w c b mg s h o t cd e a vs ns G Y I (fd_plain J) u v j g k K) λr m N=>?_);obtain⟨rfl,O,P,Q⟩:=N;exact⟨.inl ⟨.bool true,.bool true,[],rfl,λ_=>rfl,.bool true,Ey l _,λ_=>⟨cU,λ_ R=>(nomatch R)⟩⟩,O,P,Q⟩
section
variable {prog:j0}{w:w5}{A:A3}{E:b9->d9->Prop}{s:d9}{K:Frag}
end
end Att
namespace L2
open PySem PySem.Spec PyProof.Rows
theorem uU:∀{vs:List b9}{ns:List Int},bH vs ns->J9 (ns.map V.int) vs
 | _,_,.nil=>.nil
 | _,_,.cons n t h=>.cons ⟨t,rfl⟩ (uU h)
abbrev KOf {K:m9}{h:Heap} (_:K.In h):m9:=K
def bI (s:Stmt):fE:=match s with
 | .FunctionDef _ a _ _ _ _ _ _ _ _=>a
 | _=>{ posonlyargs:=[],args:=[],vararg:=none,kwonlyargs:=[],kw_defaults:=[],kwarg:=none,defaults:=[] }
def Z4 (s:Stmt):List Stmt:=match s with
 | .FunctionDef _ _ b _ _ _ _ _ _ _=>b
 | _=>[]
def A0 (s:Stmt):O9:=match s with
 | .FunctionDef _ _ _ _ _ _ a _ _ _=>a
 | _=>{ kind:=.function,names:=[],isGenerator:=false,isCoroutine:=false }
abbrev ee:DJ:=λ_ _ _ _ _ _=>False
abbrev E0:XK:=λ_ _ _=>False
variable {X:Cx}
def Iu :fN ee X E0:=λ_ _ _ _ _ _ _ h=>h.elim
structure aU (K:m9) (x qual:Str) (st:Stmt) (f:Addr) (fd:C5):Prop where
 ex:∃(oc:b9) (od:Option Addr) (kV doc pm:b9) (an:Option Addr) (cdv ct:b9) (osl:Array (Option b9)),
  fd=dB x qual (bI st) (Z4 st) (A0 st) .none kV doc pm an cdv ct/\K.lookup f=some ⟨oc,od,.func fd,osl⟩/\ic K cdv qual=true
 kp:aN K (.ref f)=true
section
variable {K:m9}
def aU.ok{st:Stmt} (F:aU K x qual st f g) (S:C6 N ps (A0 st)) (len:∀vs H Q E,sp vs H Q E->vs.length=ps.length)
  (c:∀(b:b9) (A:A3) (a:List Env) (s:d9) (H:Hp) (vs:List V) (Q:VK) (E:XK),bD k (A.deeper (bo qual (A0 st) s.heap.objs.size f b))->sp vs H Q E ->
   ∃t,ur (gw ee P w K mg base N qual (A0 st) f b A a s H E).nox (Z4 st) t/\t { nx:=λ_ i=>Q .non i,rt:=Q } (start N vs) H):K6 P w K mg base ee (k+1) f g ps sp:=by
 obtain⟨n,o,kV,j,p,r,b,u,l,rfl,lk,d⟩:=F.ex;refine JI lk d S len λA a s H vs Q E m e=>?_;obtain⟨t,h,q⟩:=c b A a s H vs Q E m e;exact⟨t,h.nox,q⟩
def aU.binds{st:Stmt} (F:aU K x qual st f e)
  (h:∀(kV a c:b9) (d:Option Addr) (b ct:b9) (us:List b9),us.length=ps.length->mC (dB x qual (bI st) (Z4 st) (A0 st) .none kV a c d b ct) ⟨us,[]⟩=pure (ps.zip us)):cO K e ps []:=by
 obtain⟨j,k,kV,a,c,d,b,ct,g,rfl,lk,i⟩:=F.ex;exact .all (h kV a c d b ct)
def tR{st:Stmt}{kV b g a ct:b9} (l:K.lookup f=some ⟨h,od,.func (dB x qual (bI st) (Z4 st) (A0 st) .none kV b g e a ct),d⟩)
  (c:ic K a qual=true) (k:aN K (.ref f)=true):aU K x qual st f (dB x qual (bI st) (Z4 st) (A0 st) .none kV b g e a ct):=⟨⟨h,od,kV,b,g,e,a,ct,d,rfl,l,c⟩,k⟩
end
variable {A:A3}
def ki(a:bD k A):A.units+1<fW:=P3 (Kn (by decide:1<=64) _) a.units
variable {n:Nat}
def jq (h:n<=1000):n<j6:=P3 h (by decide)
section
variable {X:Cx}
def pv(i:Nat) {pos:Pos} (b:X.N[i]?=some x:=by rfl) (c:TN X.env.scope x:=by first|exact B6 rfl|exact iu (B6 rfl)|exact iu (iu rfl)) (hd:(x == ("__debug__":Str))=false:=by decide)
  (a:(x == ("__classdict__":Str))=false:=by decide):PE X (.Name x pos) (rR i):=Bl b c hd a
end
variable {B:Prop}
def Z8 {A:Prop} (h:B):if false=true then A else B:=by rw[ZC v8];exact h
def aA {A:Prop} (h:A):if true=true then A else B:=by rw[ZB rfl];exact h
def MB {c A:Prop} [Decidable c] (a:c->A) (b:¬ c->B):if c then A else B:=by
 by_cases h:c
 .rw[ZB h];exact a h
 .rw[ZC h];exact b h
def tP {c A:Prop} [Decidable c] (a:c) (h:B):if (!decide c)=true then A else B:=by rw[ZA a];exact Z8 h
def u7 (H H':Hp):Prop:=∀b o,H b=some o->H' b=some o
def u7.refl (H:Hp):u7 H H:=λ_ _ h=>h
variable {H:Hp}
def u7.trans(a:u7 H d) (b:u7 d e):u7 H e:=λc o h=>b c o (a c o h)
variable {H':Hp}
def u7.free(e:u7 H H')  (h:H' l=RX):H l=RX:=by
 cases q:H l with
 | none=>rfl
 | some o =>
  rw[e l o q] at h;cases h
set_option maxHeartbeats 8000000
theorem fk:∀(names:List (Str × bM)) (n:Nat) (acc:List (Str × Addr)),T7 n names acc=T7 n names []++acc
 | [],n,acc=>rfl
 | (x,k)::r,n,acc=>by
  unfold T7;split
  .rw[fk r (n+1) ((x,n)::acc),fk r (n+1) [(x,n)],U5];rfl
  .exact fk r n acc
def Y0 (env:Env):List (Str × bM)->List (Str × Addr)->List (Str × Addr)
 | [],a=>a
 | (x,k)::r,a=>if k == .free then Y0 env r ((x,(env.cells.lookup x).getD 0)::a) else Y0 env r a
theorem zD {env:Env} (f:Str × bM->List (Str × Addr)->Sem (ForInStep (List (Str × Addr))))
  (g:∀name b cs,f (name,b) cs=if b == .free then (do let a <- cellOf env name;pure (.yield ((name,a)::cs))) else pure (.yield cs)):
  ∀(names:List (Str × bM)) (acc:List (Str × Addr)),(∀x∈names,x.2=.free->∃c,env.cells.lookup x.1=some c)->forIn names acc f=pure (Y0 env names acc)
 | [],acc,_=>by rw[fe];rfl
 | (x,k)::r,acc,h=>by
  have i:=λacc=>zD f g r acc λy j=>h y (g0 _ j);rw[bP,g];unfold Y0;by_cases d:(k == Y5)=true
  .rw[ZB d,ZB d];obtain⟨c,l⟩:=h (x,k) f7 (Zs.mp d);have e:env.cells.lookup x=some c:=l;have:cellOf env x=pure c:=by unfold cellOf;rw[e]
   rw[this,e];simp only[pure_bind,Option.getD_some];exact i _
  .rw[ZC d,ZC d];simp only[pure_bind];exact i _
variable {scope:O9}{env:Env}
def cM (h:∀x∈scope.names,x.2=.free->∃c,env.cells.lookup x.1=some c):closureFor scope env=pure (Y0 env scope.names []):=by simp only[closureFor];rw[zD (env:=env) _ (λname a cs=>by cases b:a == Y5 <;> simp[b]) scope.names [] h];rfl
theorem jw {env:Env}:∀{names:List (Str × bM)}{acc:List (Str × Addr)}{x:Str}{c:Addr},(∀x∈names,x.2=.free->∃c,env.cells.lookup x.1=some c) ->
  (x,c)∈Y0 env names acc->(x,c)∈acc ∨ env.cells.lookup x=some c
 | [],acc,x,c,_,a=>.inl a
 | (y,k)::r,acc,x,c,h,a=>by
  have g:∀x∈r,x.2=.free->∃c,env.cells.lookup x.1=some c:=λz i=>h z (g0 _ i);unfold Y0 at a;by_cases b:(k == Y5)=true
  .rw[ZB b] at a;obtain⟨d,j⟩:=h (y,k) f7 (Zs.mp b);have f:env.cells.lookup y=some d:=j;obtain q|q:=jw g a
   .rcases C7.mp q with e|q
    .cases e
     right;rw[f];rfl
    .exact .inl q
   .exact .inr q
  .rw[ZC b] at a;exact jw g a
theorem pT {env:Env}:∀{names:List (Str × bM)}{acc:List (Str × Addr)}{p:Str × Addr},p∈acc->p∈Y0 env names acc
 | [],_,_,h=>h
 | (y,k)::r,acc,p,h=>by
  unfold Y0;split
  .exact pT (g0 _ h)
  .exact pT h
theorem gF {env:Env}:∀{names:List (Str × bM)}{acc:List (Str × Addr)}{x:Str},(x,Y5)∈names->∃c,(x,c)∈Y0 env names acc
 | [],_,_,h=>by cases h
 | (y,k)::r,acc,x,h=>by
  unfold Y0;obtain e|h:=C7.mp h
  .cases e;rw[ZB (by rfl)];exact⟨_,pT f7⟩
  .split
   .exact gF h
   .exact gF h
theorem cL {a:Type}:∀{l:List (Str × a)}{x:Str}{c:a},(x,c)∈l->∃d,l.lookup x=some d
 | (k,v)::r,x,c,h=>by
  rw[G6];cases b:x == k with
  | true=>exact⟨v,rfl⟩
  | false =>
   obtain e|h:=C7.mp h
   .cases e;simp at b
   .exact cL h
theorem gW {b:Type}:∀{l a:List (Str × b)}{x:Str}{c:b},(l++a).lookup x=some c->l.lookup x=some c ∨ (l.lookup x=none/\a.lookup x=some c)
 | [],a,x,c,h=>.inr ⟨rfl,h⟩
 | (k,v)::r,a,x,c,h=>by
  rw[uk,G6] at h;rw[G6];cases d:x == k with
  | true=>rw[d] at h;exact .inl h
  | false=>rw[d] at h;exact gW h
theorem ba {b:Type}:∀{l a:List (Str × b)}{x:Str}{c:b},l.lookup x=some c->(l++a).lookup x=some c
 | [],a,x,c,h=>by cases h
 | (k,v)::r,a,x,c,h=>by
  rw[uk,G6];rw[G6] at h;cases d:x == k with
  | true=>rw[d] at h;exact h
  | false=>rw[d] at h;exact ba h
theorem cE {c:Type}:∀{l a:List (Str × c)}{x:Str},l.lookup x=none->(l++a).lookup x=a.lookup x
 | [],a,x,h=>rfl
 | (k,v)::r,a,x,h=>by
  rw[uk,G6];rw[G6] at h;cases b:x == k with
  | true=>rw[b] at h;cases h
  | false=>rw[b] at h;exact cE h
theorem gU {env:Env}:∀(names:List (Str × bM)) (x:Str),
  (names.map λ(n,k)=>if (k == Y5&&env.scope.kind == .function&&env.kindOf n == some .cell) then (n,ft) else (n,k)).lookup x
   =(names.lookup x).map λk=>if (k == Y5&&env.scope.kind == .function&&env.kindOf x == some .cell)=true then ft else k
 | [],x=>rfl
 | (n,k)::r,x=>by
  have c:=gU (env:=env) r x;rw[t8];cases a:x == n with
  | true =>
   have e:x=n:=Zs.mp a;subst e;by_cases b:(k == Y5&&env.scope.kind == .function&&env.kindOf x == some .cell)=true
   .simp only[b,if_true,G6,a,dj]
   .simp only[b,G6,a,dj];simp
  | false =>
   show dW x ((if (k == Y5&&env.scope.kind == .function&&env.kindOf n == some .cell)=true then (n,ft) else (n,k))::_)=_;by_cases b:(k == Y5&&env.scope.kind == .function&&env.kindOf n == some .cell)=true
   .rw[ZB b];simp only[G6,a];exact c
   .rw[ZC b];simp only[G6,a];exact c
theorem jT:∀{names:List (Str × bM)}{n:Nat}{acc:List (Str × Addr)}{x:Str}{d:Addr},(x,d)∈T7 n names acc->(x,d)∈acc ∨ (x,ft)∈names
 | [],_,_,_,_,h=>.inl h
 | (y,k)::r,n,acc,x,d,h=>by
  unfold T7 at h;by_cases a:(k == ft)=true
  .rw[ZB a] at h;have e:k=.cell:=Zs.mp a;subst e;obtain q|q:=jT h
   .rcases C7.mp q with z|z
    .cases z;exact .inr f7
    .exact .inl z
   .exact .inr (g0 _ q)
  .rw[ZC a] at h;obtain q|q:=jT h
   .exact .inl q
   .exact .inr (g0 _ q)
def gs (scope:O9):Bool:=scope.names.all λx=>scope.names.lookup x.1 == some x.2
def fu(h:gs scope=true)  (a:x∈scope.names):scope.names.lookup x.1=some x.2:=Zs.mp (kF.mp h x a)
variable {x:Str}
def wO (h:(nM scope env).names.lookup x=some .cell ∨ (nM scope env).names.lookup x=some .free):
  scope.names.lookup x=some .cell ∨ scope.names.lookup x=some .free:=by
 unfold nM at h;rw[gU] at h;cases e:scope.names.lookup x with
 | none=>rw[e] at h;rcases h with h|h <;> cases h
 | some k =>
  rw[e,dj] at h;by_cases a:(k == Y5&&env.scope.kind == .function&&env.kindOf x == some .cell)=true
  .rw[A4,A4] at a;exact .inr (by rw[Zs.mp a.1.1])
  .simp only[a] at h;simpa using h
variable {cl:List (Str × Addr)}
def kS 
  (h:Q (newEnv scope s.heap.objs.size a (T7 (s.heap.objs.size+1) scope.names []++cl) b none .none (some env) nQ)
   { s with heap:=bK (s.heap.push { cls:=.type "dict",data:=.dict #[] }) scope.names }):
  j8 M A (km scope a cl [] b none .none (some env)) Q E s:=by
 simp only[km,FM,if_true];refine b7 (wpAny_alloc ?_);refine b7 (wpAny_layCells _ (λname c cells=>by cases d:c == ft <;> simp[d]) _ _ _ _ ?_);rw[show ({ s with heap:=s.heap.push { cls:=.type "dict",data:=.dict #[] } }:d9).heap.objs.size=s.heap.objs.size+1 from D7 ..,fk];exact b7 (f9 (f9 h))
def Cx.comp (X:Cx) (scope:O9) (N:List Str) (s:d9) (H:Hp) (ex:List Addr):Cx where
 prog:=X.prog
 w:=X.w
 K:=X.K
 mg:=X.mg
 base:=X.base
 A:=X.A
 N:=N
 s₀:=s
 H₀:=H
 env:=compEnvC scope (T7 (s.heap.objs.size+1) scope.names []++Y0 X.env scope.names []) s.heap.objs.size X.env
 outer:=X.stack
 stack:=X.stack
 ex:=ex
 fn:=λx=>scope.names.lookup x == some .cell
 calm:=X.calm
 pn:=[]
 xe:=λ_ _=>False
def cu (ix:List (Option Nat)) (a:St):St:=ix.map λo=>o.bind λi=>(a[i]?).join
def iX (scope:O9) (N:List Str):List Str->List (Option Nat)->Bool
 | [],[]=>true
 | _::a,none::b=>iX scope N a b
 | x::a,some i::b=>N[i]? == some x&&scope.names.lookup x == some .free&&iX scope N a b
 | _,_=>false
theorem oo {scope:O9}{N:List Str}:∀{N':List Str}{ix:List (Option Nat)},iX scope N N' ix=true->ix.length=N'.length
 | [],[],_=>rfl
 | _::N',none::ix,h=>by simp[oo (N':=N') (ix:=ix) h]
 | x::N',some i::ix,h=>by
  unfold iX at h;rw[A4] at h;simp[oo (N':=N') (ix:=ix) h.2]
 | [],_::_,h=>by simp[iX] at h
 | _::_,[],h=>by simp[iX] at h
theorem oq {scope:O9}{N:List Str}:∀{N':List Str}{ix:List (Option Nat)}{j i:Nat},iX scope N N' ix=true->ix[j]?=some (some i) ->
  ∃x,N'[j]?=some x/\N[i]?=some x/\scope.names.lookup x=some .free
 | [],[],j,i,_,e=>by simp at e
 | y::N',none::ix,0,i,h,e=>by simp at e
 | y::N',none::ix,j+1,i,h,e=>by
  obtain⟨x,a,b⟩:=oq (N':=N') (ix:=ix) (j:=j) (i:=i) h (by simpa using e);exact⟨x,by simpa using a,b⟩
 | y::N',some k::ix,0,i,h,e=>by
  unfold iX at h;rw[A4,A4] at h;simp at e;subst e;exact⟨y,rfl,Zs.mp h.1.1,Zs.mp h.1.2⟩
 | y::N',some k::ix,j+1,i,h,e=>by
  unfold iX at h;rw[A4] at h;obtain⟨x,a,b⟩:=oq (N':=N') (ix:=ix) (j:=j) (i:=i) h.2 (by simpa using e);exact⟨x,by simpa using a,b⟩
 | [],_::_,_,_,h,_=>by simp[iX] at h
 | _::_,[],_,_,h,_=>by simp[iX] at h
def aZ (scope:O9) (env:Env):Bool:=scope.names.all λx=>!(x.2 == .free) || env.kindOf x.1 == some .cell || env.kindOf x.1 == some .free
def jN (h:aZ scope env=true) {x:Str × bM} (a:x∈scope.names) (b:x.2=.free):env.kindOf x.1=some .cell ∨ env.kindOf x.1=some .free:=by have:=kF.mp h x a;rw[b] at this;simpa using this
section
variable {σ:St}
def D1.closed (I:D1 X pins σ H s) (a:aZ scope X.env=true):∀x∈scope.names,x.2=.free->∃c,X.env.cells.lookup x.1=some c :=
 λx b d=>I.ok.has x.1 (jN a b d)
def yL{j:Nat} (h:(cu ix σ)[j]?=some (some v)):∃i,ix[j]?=some (some i)/\σ[i]?=some (some v):=by
 unfold cu at h;rw[w6] at h;cases e:ix[j]? with
 | none=>rw[e] at h;cases h
 | some o =>
  rw[e] at h;cases o with
  | none=>cases h
  | some i =>
   refine⟨i,rfl,?_⟩;have a:(σ[i]?).join=some v:=E8 h;cases q:σ[i]? with
   | none=>rw[q] at a;cases a
   | some z=>rw[q] at a;exact Zu some a
theorem D1.comp (I:D1 X pins σ H s) (hk:scope.kind=.function) (R:gs scope=true) (Y:aZ scope X.env=true) (Z:iX scope X.N N ix=true)
  (g:∀b∈ex,H b=none/\b≠X.env.locals/\b ∉ X.fs/\(b∈X.ex ∨ X.s₀.heap.objs.size<=b)/\(∀x c,X.env.cells.lookup x=some c->c≠b)/\b<s.heap.objs.size):
  D1 (X.comp scope N s H ex) [] (cu ix σ) H { s with heap:=bK (s.heap.push { cls:=.type "dict",data:=.dict #[] }) scope.names }:=by
 have D:=I.closed Y;have f:∀b o,s.heap.get? b=some o->(bK (s.heap.push { cls:=.type "dict",data:=.dict #[] }) scope.names).get? b=some o:=λb o e=>jh _ _ b o (f6 _ e);have ok:=cellsFrom_ok scope.names (s.heap.push { cls:=.type "dict",data:=.dict #[] }) (s.heap.objs.size+1) [] ⟨λ_ _ hm=>(nomatch hm),cU⟩ (by rw[D7];exact i4 _);rw[D7] at ok;have S:(bK (s.heap.push { cls:=.type "dict",data:=.dict #[] }) scope.names).Ns s.heap.objs.size (λ_=>none):=(Heap.Ns.new s.heap (.type "dict")).keeps (jh _ _);have cells:∀x c,(X.comp scope N s H ex).env.cells.lookup x=some c->(x,c)∈T7 (s.heap.objs.size+1) scope.names [] ∨ X.env.cells.lookup x=some c:=λx c e=>by
  have C:(T7 (s.heap.objs.size+1) scope.names []++Y0 X.env scope.names []).lookup x=some c:=e;obtain q|⟨_,q⟩:=gW C
  .exact .inl (mem_of_lookup q)
  .rcases jw D (mem_of_lookup q) with z|z
   .cases z
   .exact .inr z
 have old:∀x c,X.env.cells.lookup x=some c->c+1<=s.heap.objs.size:=λx c e=>let ⟨v,q⟩:=I.cell x c e;q.lt
 have own:∀x c,(x,c)∈T7 (s.heap.objs.size+1) scope.names []->s.heap.objs.size+1<=c:=λx c e=>(ok.empty x c e).2;refine⟨⟨I.ok.mod,hk,I.ok.glob,I.ok.blt,i4 _,λx y c w J=>?_,λx w=>?_,λx c w J=>?_,I.ok.hd,I.ok.frames,.inl rfl,λb t=>⟨?_,λx c e=>?_⟩,I.bs,j9 I.ok.bsz I.sz,λb o e t=>?_,λb t T=>?_,I.stack,I.stkFree⟩,
  rfl,I.bare,Un.kept f,⟨_,S,λj x v w J h3=>?_⟩,λx c e=>?_,I.hok.fresh (i4 _),λx c e=>?_,λp hp=>Zy (show p∈([]:List (Addr × Obj)) from hp) (by simp),I.hok.kept f,?_⟩
 .rcases cells x c w with K|K <;> obtain L|L:=cells y c J
  .exact name_of_addr ok.apart K L
  .exact Zy (j9 (own _ _ K) (j9 (ae _) (old _ _ L))) (FZ _)
  .exact Zy (j9 (own _ _ L) (j9 (ae _) (old _ _ K))) (FZ _)
  .exact I.ok.inj x y c K L
 .have h:scope.names.lookup x=some .cell ∨ scope.names.lookup x=some .free:=wO w;obtain q|q:=h
  .obtain⟨c,e⟩:=oH (n:=s.heap.objs.size+1) (sc:=scope) q;exact⟨c,ba e⟩
  .obtain⟨c,e⟩:=gF (env:=X.env) (acc:=[]) (mem_of_lookup q);cases z:(T7 (s.heap.objs.size+1) scope.names []).lookup x with
   | some d=>exact⟨d,ba z⟩
   | none =>
    obtain⟨d,C⟩:=cL e;exact⟨d,(cE z).trans C⟩
 .have h:scope.names.lookup x=some .cell:=Zs.mp w;obtain⟨d,e⟩:=oH (n:=s.heap.objs.size+1) (sc:=scope) h;have C:(T7 (s.heap.objs.size+1) scope.names []++Y0 X.env scope.names []).lookup x=some c:=J;rw[ba e] at C;cases C;exact j9 (ae _) (own _ _ (mem_of_lookup e))
 .exact y7 (g b t).2.2.2.2.2
 .rcases cells x c e with q|q
  .exact D2 (B5 (g b t).2.2.2.2.2 (j9 (ae _) (own _ _ q)))
  .exact(g b t).2.2.2.2.1 x c q
 .rcases (g b t).2.2.2.1 with z|z
  .exact I.ok.noex b o e z
  .exact Zy (B5 (i5 e) (j9 I.ok.bsz z)) (U0 _)
 .rcases C7.mp (I.stkSub b T) with z|z
  .exact(g b t).2.1 z
  .exact(g b t).2.2.1 z
 .obtain⟨i,e1,e2⟩:=yL J;obtain⟨y,f1,f2,Q⟩:=oq Z e1;have U:x=y:=by have h:N[j]?=some x:=w;rw[f1] at h;exact(E8 h).symm
  subst U;obtain⟨m,hm,hl⟩:=I.loc;have kx:=jN Y (mem_of_lookup Q) rfl;have V:TN X.env.scope x:=by
   obtain k|k:=kx
   .exact .inr (.inl k)
   .exact .inr (.inr k)
  obtain⟨u,ru,l⟩:=hl i x v f2 e2 V;refine⟨u,ru,.inr ?_⟩;have hv:(nM scope X.env).names.lookup x=some .cell ∨ (nM scope X.env).names.lookup x=some .free:=by
   unfold nM;rw[gU,Q,dj];split
   .exact .inl rfl
   .exact .inr rfl
  refine⟨hv,?_⟩;obtain⟨k,_⟩|⟨k,c,ec,z⟩:=l
  .have k':X.env.kindOf x=some .local:=k;rcases kx with q|q <;> rw[q] at k' <;> cases k'
  .obtain⟨d,ed⟩:=gF (env:=X.env) (acc:=[]) (mem_of_lookup Q);have r:(T7 (s.heap.objs.size+1) scope.names []).lookup x=none ∨ ∃d,(T7 (s.heap.objs.size+1) scope.names []).lookup x=some d:=by
    cases (T7 (s.heap.objs.size+1) scope.names []).lookup x with
    | none=>exact .inl rfl
    | some d=>exact .inr ⟨d,rfl⟩
   obtain q|⟨d',q⟩:=r
   .obtain⟨d2,O⟩:=cL ed;have P:X.env.cells.lookup x=some d2:=by
     obtain z|z:=jw D (mem_of_lookup O)
     .cases z
     .exact z
    rw[ec] at P;cases P;exact⟨c,(cE q).trans O,z.keeps f⟩
   ·-- a name is not both free and a cell of the block
    exfalso;obtain z|z:=jT (mem_of_lookup q)
    .cases z
    .have z':=fu R z;rw[Q] at z';cases z'
 .rcases cells x c e with q|q
  .exact⟨none,(ok.empty x c q).1⟩
  .obtain⟨v,z⟩:=I.cell x c q;exact⟨v,z.keeps f⟩
 .rcases cells x c e with q|q
  .exact I.hok.fresh (j9 (ae _) (own x c q))
  .exact I.freeC x c q
 .show (cu ix σ).length=N.length;unfold cu;rw[d8];exact oo Z
end
def xu(I:Nat->d9->Prop)
  (q:∀n s,I n s->j8 (n6 prog w) A (Y3 it) (λr b=>match r with
   | none=>R (.ok .next) b
   | some v=>j8 (n6 prog w) A (cB a it v) (λ_ d=>j8 (n6 prog w) A (fY a env v) (λ_ g =>
     j8 (n6 prog w) A (forIn ifs true λc r=>if r=true then do let ok <- KM c env (eval c env);pure (ao ok) else pure (ao r)) (λok e =>
      if ok=true then j8 (n6 prog w) A (eval o env) (λx i =>
       j8 (n6 prog w) A (call (.builtin "list.append") [acc,x]) (λ_ j=>∃m,m<n/\I m j) (λ_ _=>False) i) (λ_ _=>False) e
      else ∃m,m<n/\I m e) (λ_ _=>False) g) (λ_ _=>False) d) (λ_ _=>False) b) (λ_ _=>False) s)
  (n:Nat) (h:I n s):
  Z2 (n6 prog w) A (.compLoop (.ListComp o [⟨a,iter,ifs,0⟩] scope pos) 0 it acc env) R s:=by
 refine KO rfl I (λn s z=>?_) n h;show j8 _ A ((compTurn (.ListComp o [⟨a,iter,ifs,0⟩] scope pos) 0 it acc env).onRaise (λx=>do fC x env;Ak x)) _ _ s;refine Oe ?_;rw[compTurn_list];refine b7 (cF (b7 (C4 (q n s z) (λr b k=>?_) λ_ _ f=>f.elim)));cases r with
 | none=>exact f9 k
 | some v =>
  refine b7 (C4 k (λ_ d p=>?_) λ_ _ f=>f.elim);refine b7 (C4 p (λ_ g t=>b7 (C4 t (λok e l=>?_) λ_ _ f=>f.elim)) λ_ _ f=>f.elim);cases ok with
  | false=>exact f9 ⟨rfl,l⟩
  | true =>
   exact b7 (b7 (C4 l (λx i u=>b7 (C4 u (λ_ j y=>f9 (f9 ⟨rfl,y⟩)) λ_ _ f=>f.elim)) λ_ _ f=>f.elim))
def Wk (b a:St):Prop:=b.length=a.length/\∀(i:Nat) v,b[i]?=some (some v)->a[i]?=some (some v)
theorem Wk.set(h:a[i]?=some none ∨ a[i]?=none):Wk a (a.set i (some v)):=by
 refine⟨by simp,λj u e=>?_⟩;by_cases b:j=i
 .subst b;rcases h with h|h <;> rw[h] at e <;> cases e
 .rw[P1 (G2 b)];exact e
section
variable {σ:St}
abbrev N9 (s:d9):d9:={ s with heap:=s.heap.push { cls:=.type "list",dict:=none,data:=.seq ([]:List b9).toArray } }
def aM (s:d9):(N9 s).heap.objs.size=s.heap.objs.size+1:=D7 ..
def D1.comp_end{l:St} (I:D1 X pins σ H s) (J:D1 (X.comp scope N (N9 s) H (s.heap.objs.size::fp)) pins' l H' s') (g:∀b∈fp,gZ X pins H b)
  (k:H' s.heap.objs.size=none) (w:s'.heap.get? s.heap.objs.size=some { cls:=.type "list",data:=.seq i.toArray n }) (y:J9 ys i) (hz:ys.length<=j6)
  (hs:F5 (N9 s).heap.objs.size s'.heap h'):D1 X pins σ (C3 H' s.heap.objs.size (.lst ys)) { s' with heap:=h' }:=by
 have f:∀b,b<s.heap.objs.size->b≠(N9 s).heap.objs.size:=λb d=>by rw[aM];exact y7 (M8 d)
 have C:s.heap.objs.size≠(N9 s).heap.objs.size:=by rw[aM];exact y7 (T5 _)
 have a:∀b o,s.heap.get? b=some o->(N9 s).heap.get? b=some o:=λb o e=>f6 _ e;have h:∀b o,s.heap.get? b=some o->b ∉ fp->b ∉ (X.comp scope N (N9 s) H (s.heap.objs.size::fp)).ex:=λb o e d z=>by
  obtain z|z:=C7.mp (show b∈s.heap.objs.size::fp from z)
  .rw[z] at e;exact Zy (i5 e) (U0 _)
  .exact d z
 have U:=J.base;have un:Un (fR X.stack) fp H (C3 H' s.heap.objs.size (.lst ys)) s.heap h':=by
  refine⟨λb o e n d j=>?_,λb o e n d j=>?_,λb o e n j=>?_,λb o e j=>?_,λb r e=>?_,λb o u e=>?_,λb D e=>?_⟩
  .exact(hs.2 b (f b (i5 e))).trans (U.keep b o (a b o e) n d (h b o e j))
  .obtain⟨sl,q⟩:=U.slot b o (a b o e) n d (h b o e j);exact⟨sl,(hs.2 b (f b (i5 e))).trans q⟩
  .rw[t9 (y7 (i5 e))];exact U.free b o (a b o e) n (h b o e j)
  .obtain⟨K,q⟩:=U.there b o (a b o e) (h b o e j);exact⟨K,(hs.2 b (f b (i5 e))).trans q⟩
  .have q:=U.tups b r e;rw[t9 (A5 q k)];exact q
  .have q:=U.frzs b o u e;rw[t9 (A5 q k)];exact q
  .obtain⟨m,q⟩:=U.tbls b D e;exact⟨m,by rw[t9 (A5 q k)];exact q⟩
 have t:H' (N9 s).heap.objs.size=none:=J.free;have p:dQ X.prog X.w (C3 H' s.heap.objs.size (.lst ys)) h':=λb u e=>by
  by_cases d:b=s.heap.objs.size
  .subst d;rw[j3] at e;cases e;exact⟨hz,i,n,y,(hs.2 _ C).trans w⟩
  .rw[t9 d] at e;refine (J.hok b u e).stay (λc v L q=>(hs.2 c ?_).trans q) (λc q=>by rw[t9 (A5 q k)];exact q) λc r q=>by rw[t9 (A5 q k)];exact q
   rintro rfl;obtain z|z:=L
   .rw[<- z,t] at e;cases e
   .rw[t] at z;cases z
 exact I.call' (s':={ s' with heap:=h' }) (ch:=fp) J.os un p J.bare λb d=>⟨(g b d).2.2.2.1,(g b d).2.1,(g b d).2.2.2.2.1,(g b d).2.2.2.2.2⟩
end
def Ce (X:Cx) (ifs:List Expr) (t:TT):Prop :=
 ∀(a:List (Addr × Obj)) (s:d9) (b:St) (H:Hp) (Q:Bool->Hp->Prop),D1 X a b H s->t b H Q ->
  j8 (n6 X.prog X.w) X.A (forIn ifs true λc r=>if r=true then do let ok <- KM c X.env (eval c X.env);pure (ao ok) else pure (ao r)) (TP X a b Q) X.xe s
def ag:TT:=λ_ H Q=>Q true H
def P5:Ce X [] ag:=λ_ _ _ H _ I h=>wpAny_tests_nil ⟨H,I,h⟩
def sF(h:PT X c tc):Ce X [c] tc:=λa s b H Q I d=>wpAny_tests_one (h a s b H Q I d)
def Cj (J:It) (c:St) (g:TG) (tc:TT) (te:TE) (o:Hp) (F:List V->Hp->Prop):Prop:=∃W:Nat->Nat->List V->Hp->Prop,(∃m,W 0 m [] o)/\∀i m d e,W i m d e->d.length<=j6 /\
 ((J.stop i e/\F d e) ∨
  (J.go i e/\∃(h:V->Hp->Prop) (j:Hp->Prop),(∀y H,h y H->∃f,f<m/\W (i+1) f (d++[y]) H)/\(∀H,j H->∃f,f<m/\W (i+1) f d H) /\
    ∀x k,J.yld i e x k->g x c k λa p=>Wk c a/\tc a p λb l=>if b=true then te a l h else j l))
def zw{K:St}{RR:b9->Addr->fZ->d9->Prop}
  (hc:X.calm=true) (hk:scope.kind=.function) (a8:gs scope=true) (hf:aZ scope X.env=true) (hx:iX scope X.N N ix=true)
  (hg:∀s H ex,PG (X.comp scope N s H ex) target g) (ht:∀s H ex,Ce (X.comp scope N s H ex) ifs tc) (he:PE (X.comp scope N (N9 s) H (s.heap.objs.size::h)) elt te)
  (I:D1 X l K H s) (T:pV X.prog X.w X.K target J h it tn) (st:tn 0 s.heap) (Y:∀b∈h,gZ X l H b) (B:Cj J (cu ix K) g tc te H F)
  (fin:∀(ys:List V) (H':Hp) (s':d9) (a9:St) (f:List b9) (n:Nat),D1 (X.comp scope N (N9 s) H (s.heap.objs.size::h)) [] a9 H' s'->H' s.heap.objs.size=none ->
   s'.heap.get? s.heap.objs.size=some { cls:=.type "list",data:=.seq f.toArray n }->J9 ys f->ys.length<=j6->F ys H'->RR (.ref s.heap.objs.size) (N9 s).heap.objs.size (.ok .next) s'):
  j8 (n6 X.prog X.w) X.A (KJ []) (λZ a0=>j8 (n6 X.prog X.w) X.A (km scope X.env.globals (Y0 X.env scope.names []) [] X.env.qual none .none (some X.env)) (λO a1 =>
   Z2 (n6 X.prog X.w) X.A (.compStart (.ListComp elt [⟨target,iter,ifs,0⟩] scope pos) 0 (.ref it) Z { O with scope:=nM scope X.env }) (RR Z O.locals) a1) E a0) E s:=by
 refine E4 (kS ?_) (by show ([]:List b9).toArray.size<=j6;exact A6 _);obtain⟨W,⟨m0,w0⟩,a2⟩:=B;have I1:D1 X l K H (N9 s):=I.kept (t':=s.toks) λb o e=>f6 _ e;have m:∀b∈h,b<s.heap.objs.size:=λb a=>let ⟨o,e,_⟩:=T.obj 0 _ st b a;i5 e
 have a3:(N9 s).heap.get? s.heap.objs.size=some { cls:=.type "list",dict:=none,data:=.seq ([]:List b9).toArray }:=j7 _ rfl;have S:gZ X l H s.heap.objs.size:=I.fpOk (i4 _) (I.hok.fresh (i4 _));have J0:D1 (X.comp scope N (N9 s) H (s.heap.objs.size::h)) [] (cu ix K) H _:=I1.comp (N:=N) (ix:=ix) (ex:=s.heap.objs.size::h) hk a8 hf hx λb a=>by
  obtain z|z:=C7.mp a
  .subst z;exact⟨S.1,S.2.1,S.2.2.1,S.2.2.2.1,S.2.2.2.2.1,by rw[aM];exact T5 _⟩
  .obtain⟨f0,f1,f2,f3,f4,_⟩:=Y b z;exact⟨f0,f1,f2,f3,f4,by rw[aM];exact M8 (m b z)⟩
 have t:∀b o,(N9 s).heap.get? b=some o->(bK ((N9 s).heap.push { cls:=.type "dict",data:=.dict #[] }) scope.names).get? b=some o:=λb o e=>jh _ _ b o (f6 _ e);have a4:tn 0 (bK ((N9 s).heap.push { cls:=.type "dict",data:=.dict #[] }) scope.names):=T.keep 0 _ _ st λb a o e=>t b o (f6 _ e);have j:∀b∈s.heap.objs.size::h,b≠(X.comp scope N (N9 s) H (s.heap.objs.size::h)).env.locals/\b ∉ (X.comp scope N (N9 s) H (s.heap.objs.size::h)).fs /\
   ∀x c,(X.comp scope N (N9 s) H (s.heap.objs.size::h)).env.cells.lookup x=some c->c≠b:=λb a=>⟨(J0.ok.exf b a).1,J0.ok.exfs b a,(J0.ok.exf b a).2⟩
 have w:∀{H':Hp}{o:Obj},(∀b∈h,H' b=none)->∀b∈h,gZ (X.comp scope N (N9 s) H (s.heap.objs.size::h)) [(s.heap.objs.size,o)] H' b:=λ{H' o} hn b a=>by obtain⟨e1,e2,e3⟩:=j b (g0 _ a);refine⟨hn b a,e1,e2,.inl (g0 _ a),e3,λp C=>?_⟩;have ab:p∈[(s.heap.objs.size,o)]:=(ZX.mp C).elim (λz=>Zy (show p∈([]:List (Addr × Obj)) from z) (by simp)) id;rw[ZZ.mp ab];exact D2 (m b a)
 have P:Z2 (n6 X.prog X.w) X.A (.compLoop (.ListComp elt [⟨target,iter,ifs,0⟩] scope pos) 0 (.ref it) (.ref s.heap.objs.size) (X.comp scope N (N9 s) H (s.heap.objs.size::h)).env) (RR (.ref s.heap.objs.size) (N9 s).heap.objs.size)
   { N9 s with heap:=bK ((N9 s).heap.push { cls:=.type "dict",data:=.dict #[] }) scope.names }:=by
  refine xu (λn s'=>∃i ys f k H',D1 (X.comp scope N (N9 s) H (s.heap.objs.size::h)) [] (cu ix K) H' s'/\tn i s'.heap/\(∀b∈h,H' b=none)/\H' s.heap.objs.size=none /\
   s'.heap.get? s.heap.objs.size=some { cls:=.type "list",data:=.seq (f:List b9).toArray k }/\J9 ys f/\W i n ys H') ?_ m0
   ⟨0,[],[],0,H,J0,a4,λb a=>(Y b a).1,S.1,t _ _ a3,.nil,w0⟩
  rintro n s3 ⟨i,ys,f,k,H3,I3,a5,a6,d3,l3,v3,w3⟩;obtain⟨hz,hw⟩:=a2 i n ys H3 w3;have Q:D1 (X.comp scope N (N9 s) H (s.heap.objs.size::h)) [(s.heap.objs.size,{ cls:=.type "list",data:=.seq f.toArray k })] (cu ix K) H3 s3:=I3.pins_of λp C=>by rw[ZZ.mp C];exact⟨l3,d3,(j _ f7).1,(j _ f7).2.1,λv z=>by cases z⟩
  obtain⟨stop,fy⟩|⟨go,Ny,Nn,ac,ad,step⟩:=hw
  .refine S6 (T.done (X.comp scope N (N9 s) H (s.heap.objs.size::h)) rfl rfl rfl hc i _ s3 (cu ix K) H3 (λ_ _=>False) Q (w a6) a5 stop) λr s4 ⟨hr,I4⟩=>?_;subst hr;have q:=(I4.pin (s.heap.objs.size,_) (i9 _ f7)).1;exact fin ys H3 s4 _ f k (I4.pins_of λp C=>by cases C) d3 q v3 hz fy
  .refine S6 (T.item (X.comp scope N (N9 s) H (s.heap.objs.size::h)) rfl rfl rfl hc i _ s3 (cu ix K) H3 (λ_ _=>False) Q (w a6) a5 go) λr s4 ⟨u,hr,h4⟩=>?_;subst hr;refine S6 h4 λ_ s5 ⟨x,H5,I5,r5,y5,D,al⟩=>?_;have am:=I5.pinned (w al) (T.obj _ _ D);refine S6 (hg (N9 s) H (s.heap.objs.size::h) _ s5 (cu ix K) H5 x u _ am r5 (step x H5 y5)) λ_ s6 ⟨a7,H6,I6,L,q6⟩=>?_;refine S6 (ht (N9 s) H (s.heap.objs.size::h) _ s6 a7 H6 _ I6 q6) λok s7 ⟨H7,U,q7⟩=>?_;cases ok with
   | false =>
    obtain⟨m',hm,w7⟩:=ad H7 q7;refine⟨m',hm,i+1,ys,f,k,H7,(U.weak L.1 L.2).pins_of (λp C=>by cases C),?_,λb a=>?_,?_,?_,v3,w7⟩
    .exact T.keep _ _ _ D λb a o e=>(U.pin (b,o) (i9 _ (i9 _ (X3 a e)))).1
    .obtain⟨o,e,d⟩:=T.obj _ _ D b a;exact(U.pin (b,o) (i9 _ (i9 _ (X3 a e)))).2.1
    .exact(U.pin (s.heap.objs.size,_) (i9 _ (E9 _ f7))).2.1
    .exact(U.pin (s.heap.objs.size,_) (i9 _ (E9 _ f7))).1
   | true =>
    show j8 _ _ _ _ _ _;refine S6 (he _ s7 a7 H7 _ U q7) λyv s8 ⟨y,H8,I8,r8,an⟩=>?_;obtain⟨m',hm,w8⟩:=ac y H8 an;have q8:=I8.pin (s.heap.objs.size,_) (i9 _ (E9 _ f7));refine Kh (l:=s.heap.objs.size) (items:=f.toArray) ⟨k,q8.1⟩ (λh' R sb=>?_) (by rw[A2,<- v3.length];exact hz);obtain⟨k',R⟩:=R;have I9:D1 (X.comp scope N (N9 s) H (s.heap.objs.size::h)) [] (cu ix K) H8 { s8 with heap:=h' }:=((I8.weak L.1 L.2).pins_of (pins':=[]) (λp C=>by cases C)).turned (t':=s8.toks) (it:=s.heap.objs.size)
     (λb o a e=>(sb.2 b a).trans e) q8.2.1 (j _ f7).1 (.inl f7) (j _ f7).2.2 (λp C=>Zy (show p∈([]:List (Addr × Obj)) from C) (by simp))
    refine⟨m',hm,i+1,ys++[y],f++[yv],k',H8,I9,?_,λb a=>?_,q8.2.1,?_,v3.append (.cons r8 .nil),w8⟩
    .refine T.keep _ _ _ D λb a o e=>(sb.2 b (y7 (m b a))).trans (I8.pin (b,o) (i9 _ (i9 _ (X3 a e)))).1
    .obtain⟨o,e,d⟩:=T.obj _ _ D b a;exact(I8.pin (b,o) (i9 _ (i9 _ (X3 a e)))).2.1
    .have e:f.toArray.push yv=(f++[yv]).toArray:=by simp
     rw[<- e];exact R
 exact KQ P (T.self _ 0 _ _ _ a4 P)
def Q2 (D:X.calm=true) (K:PI X target iter wi) (L:∀s H b,PG (X.comp scope N s H b) target g) (O:∀s H b,Ce (X.comp scope N s H b) ifs tc) (P:∀s H b,PE (X.comp scope N s H b) elt te)
  (q:scope.kind=.function) (c:gs scope=true) (r:aZ scope X.env=true) (f:iX scope X.N N ix=true) (hs:∀x,fV iter X.env x=pure x):
  PE X (.ListComp elt [⟨target,iter,ifs,0⟩] scope pos) (λd H Q=>wi d H λJ R=>Cj J (cu ix d) g tc te R λt i=>∀p,i p=none->Q (.ref p) (C3 i p (.lst t))):=by
 intro a s d H Q I h;rw[eval_ListComp];refine eF (use:=none) rfl hs (cM (I.closed r)) q (λx f j=>(fu c f).trans (by rw[j])) ?_;refine S6 (K a s d H _ I h) λv s1 S=>S6 S λU V Y=>?_;obtain⟨it,fp,tn,J,i,e,u,T,k,w,B⟩:=Y;subst e;refine zw (RR:=λl C=>DP (n6 X.prog X.w) X.A X.xe none (EP X a d Q) l C) D q c r f L O (P _ _ _) u T k w B ?_;intro t H' s' Z a0 n y z j hv hz hF;obtain⟨m,hm,_⟩:=y.loc;exact⟨m,hm,λh' o=>⟨.ref V.heap.objs.size,_,u.comp_end y w z j hv hz o,rfl,hF _ z⟩⟩
def kR(hc:X.calm=true) (hN:X.N.Nodup) (hn:X.N[i]?=some y) (hy:X.env.scope.names.lookup y=some .local)
  (hi:PI X target iter wi) (hg:∀s H t,PG (X.comp scope N s H t) target g) (ht:∀s H t,Ce (X.comp scope N s H t) ifs tc) (he:∀s H t,PE (X.comp scope N s H t) elt te)
  (hk:scope.kind=.function) (u:gs scope=true) (hf:aZ scope X.env=true) (K:iX scope X.N N ix=true) (hs:∀x,fV iter X.env x=pure x)
  (L:mz (.ListComp elt [⟨target,iter,ifs,0⟩] scope pos) (some (.Name y k)) f.line X.env=pure true):
  PS X (.Assign [.Name y k] (.ListComp elt [⟨target,iter,ifs,0⟩] scope pos) f) (λD w H=>wi w H λJ H1=>Cj J (cu ix w) g tc te H1 λO P=>∀p,P p=none->D.nx (w.set i (some (.ref p))) (C3 P p (.lst O))):=by
 intro d s w H D I h;rw[exec_Assign_Name_used _ _ _ _ L];refine b7 (cF (b7 ?_));show j8 _ X.A (do let _ <- comprehension (.ListComp elt [⟨target,iter,ifs,0⟩] scope pos) scope X.env _ (KJ []) false (eval iter X.env) (some (fY (.Name y k) X.env))) _ _ s;refine b7 (S6 (eF (use:=some (fY (.Name y k) X.env)) (Q:=λ_ l=>SP X d D .next l) rfl hs (cM (I.closed hf)) hk (λx K Q=>(fu u K).trans (by rw[Q])) ?_) λ_ l hq=>f9 (f9 hq));refine S6 (hi d s w H _ I h) λv s1 h1=>S6 h1 λa2 r h2=>?_;obtain⟨it,fp,tn,J,P,e,j,T,R,f2,B⟩:=h2;subst e;refine zw (RR:=λS C=>DP (n6 X.prog X.w) X.A X.xe (some (fY (.Name y k) X.env)) (λ_ l=>SP X d D .next l) S C) hc hk u hf K hg ht (he _ _ _) j T R f2 B ?_;intro O H' l a3 a4 n U hD Q hv hz hF;obtain⟨m,hm,_⟩:=U.loc;have I3:=j.comp_end (h':=l.heap) U f2 hD Q hv hz (.refl ..);show j8 _ X.A (fY (.Name y k) X.env (.ref r.heap.objs.size)) _ _ _;refine Ui (vd (v:=.ref r.heap.objs.size) I3 hN hn (.inl hy) rfl (λV I4 Y=>?_) (.inr hy));obtain⟨a,sb,ha⟩:=Y;have Z:(N9 r).heap.objs.size≠a:=by
  rw[aM];obtain z|z:=ha
  .rw[z];exact D2 (M8 j.lt)
  .obtain⟨v,q⟩:=j.cell y a z;exact D2 (M8 q.lt)
 have a0:(C3 H' r.heap.objs.size (.lst O)) (N9 r).heap.objs.size=none:=by rw[t9 (by rw[aM];exact D2 (T5 _))];exact U.free
 refine⟨m,hm.sameBut sb Z,λh' a1=>?_⟩;refine⟨_,_,?_,hF _ hD⟩;obtain⟨m2,n2,_⟩:=id I4.loc;refine I4.turned (t':=V.toks) (it:=(N9 r).heap.objs.size) (λb o hb e=>(a1.2 b hb).trans e) a0 ?_ ?_ ?_ ?_
 .rw[aM];exact D2 (M8 j.lt)
 .rw[aM];exact .inr (j9 j.sz (ae _))
 .intro x c e;obtain⟨v,q⟩:=j.cell x c e;rw[aM];exact y7 (M8 q.lt)
 .intro p hp;rw[aM];exact y7 (M8 (i5 (j.pin p hp).1))
section
variable {X:Cx}{σ:St}
def yz(I:D1 X pins σ H s) (m:A.handled=none) (hs:jc X.K H p xs ∨ jb X.K H p xs)
  (h:∀(a:List b9) (it:Addr) (q r:List Addr) (St:Nat->Heap->Prop) (k:Heap),J9 xs a->Walks X.prog X.w A it q r a.length (λi v=>a[i]?=some v) St->St 0 k->(∀b∈q,b<k.objs.size) ->
   (∀f:Heap,(∀b o,b ∉ r->k.get? b=some o->f.get? b=some o)->∀b o,s.heap.get? b=some o->f.get? b=some o)->Q (.ref it) { s with heap:=k }):
  j8 (n6 X.prog X.w) A (qJ (.ref p)) Q E s:=by
 have keep:∀(o:Obj) (f:Heap),(∀b u,b ∉ [s.heap.objs.size]->(s.heap.push o).get? b=some u->f.get? b=some u)->∀b u,s.heap.get? b=some u->f.get? b=some u:=λo f t b u e =>
  t b u (λw=>by rw[ZZ.mp w] at e;exact U0 _ (i5 e)) (f6 _ e)
 obtain hs|hs:=hs
 .obtain⟨a,l,g,y⟩:=I.list hs;have c:p<s.heap.objs.size:=by obtain⟨_,e,_⟩:=g.isList;exact i5 e
  refine ly g.isList ?_;have W:=UO (prog:=X.prog) (w:=X.w) (A:=A) m s.heap.objs.size p (y7 c) a.toArray;refine h a s.heap.objs.size [s.heap.objs.size,p] [s.heap.objs.size] (λi h=>h.IsListIter s.heap.objs.size p i/\h.IsList p a.toArray) _ l (by simpa using W) ⟨⟨_,j7 _ rfl,rfl,rfl⟩,g.isList.push _⟩ (λb d=>?_) (keep _);rw[D7];obtain rfl|d:=C7.mp d
  .exact T5 _
  .rw[ZZ.mp d];exact M8 c
 .obtain⟨a,l,g,y⟩:=I.tuple hs;have j:s.heap.IsTuple p a.toArray:=g;have c:p<s.heap.objs.size:=g.lt;refine cj j ?_;have W:=Walks.tuple (prog:=X.prog) (w:=X.w) (A:=A) m s.heap.objs.size p (y7 c) a.toArray;refine h a s.heap.objs.size [s.heap.objs.size,p] [s.heap.objs.size] (λi h=>h.IsTupleIter s.heap.objs.size p i/\h.IsTuple p a.toArray) _ l (by simpa using W) ⟨⟨_,j7 _ rfl,rfl,rfl⟩,j.push _⟩ (λb d=>?_) (keep _);rw[D7];obtain rfl|d:=C7.mp d
  .exact T5 _
  .rw[ZZ.mp d];exact M8 c
def Rz (ns:List Int) (i:Nat):Int:=(ns[i]?).getD 0
theorem sD (ns:List Int):∀k,preSum (Rz ns) k=(ns.take k).sum
 | 0=>by simp[preSum]
 | k+1=>by rw[preSum,sD ns k,D8,List.sum_append];unfold Rz;cases ns[k]? <;> simp
def Gq(r:J9 (ns.map V.int) a) {v:b9} (e:a[i]?=some v):∃t,v=.int (Rz ns i) t:=by
 have b:=r.length;rw[d8] at b;have c:i<ns.length:=by rw[b];exact(ZW.mp e).1
 obtain⟨u,d,f⟩:=r.get (i:=i) (x:=.int ns[i]) (by rw[w6,j4 c];rfl);rw[e] at d;cases d;obtain⟨t,rfl⟩:=f;exact⟨t,by unfold Rz;rw[j4 c];rfl⟩
def dP (d:X.calm=true):cN X (.builtin "sum") (λxs H Q=>∃(p:Addr) (ns:List Int),xs=[.ref p]/\(jc X.K H p (ns.map V.int) ∨ jb X.K H p (ns.map V.int))/\Q (.int ns.sum) H):=by
 intro pins s σ H xs t Q I r h;obtain⟨p,ns,rfl,f,q⟩:=h;obtain⟨u,rfl,g⟩:=kg r;cases g;refine call_sum_walkG (yz (A:=X.A.in1) I (I.ok.hd d) f λa j k l St w c W st b keep=>?_);refine⟨j,k,l,a.length,_,St,Rz ns,rfl,W,st,b,λi v e=>Gq c e,λm y z o=>?_⟩;have e:preSum (Rz ns) a.length=ns.sum:=by rw[sD,<- c.length,d8,M6]
 rw[e];exact⟨.int ns.sum,H,I.kept (keep m o),⟨_,rfl⟩,q⟩
def AA:V->Bool
 | .bl b=>b
 | .int i=>i != 0
 | .non=>false
 | _=>true
def IP:V->Bool
 | .bl _=>true
 | .int _=>true
 | .non=>true
 | _=>false
def Ls{x:V} (r:K3 x v) (ok:IP x=true) (h:Q (AA x) s):j8 (n6 X.prog X.w) A (truthy v) Q E s:=by
 cases x with
 | bl b=>cases r;exact V6 h
 | int i=>obtain⟨t,rfl⟩:=r;exact PyProof.Rows.truthy_int h
 | non=>cases r;exact PyProof.Rows.truthy_none h
 | _=>exact Zy (show false=true from ok) v8
def Ef (d:Bool) (xs:List V) (i:Nat):Bool:=((xs[i]?).map AA).getD d
def Nb (xs:List V):(P0 xs.length).all (Ef true xs)=xs.all AA:=by
 rw[bQ,kF,kF];constructor
 .intro h b d;obtain⟨i,c,e⟩:=List.getElem_of_mem d;have:=h i (ZT.mpr c);unfold Ef at this;rw[j4 c,e] at this;exact this
 .intro h i c;have a:=ZT.mp c;unfold Ef;rw[j4 a];exact h _ (af a)
def ym(d:Bool) (rv:J9 xs a) (ok:xs.all IP=true):TruthOf X.prog X.w A (λi v=>a[i]?=some v) (Ef d xs):=by
 intro i v s Q E e b;have c:i<xs.length:=by rw[rv.length];exact(ZW.mp e).1
 obtain⟨u,f,g⟩:=rv.get (i:=i) (x:=xs[i]) (by rw[j4 c]);rw[e] at f;cases f;refine Ls (X:=X) g (kF.mp ok _ (af c)) ?_;unfold Ef at b;rw[j4 c] at b;exact b
def jU (c:X.calm=true):cN X (.builtin "all") (λxs H Q=>∃(p:Addr) (ys:List V),xs=[.ref p]/\(jc X.K H p ys ∨ jb X.K H p ys)/\ys.all IP=true/\Q (.bl (ys.all AA)) H):=by intro pins s σ H xs m Q I r h;obtain⟨p,ys,rfl,d,ok,q⟩:=h;obtain⟨u,rfl,e⟩:=kg r;cases e;refine call_all_walk (yz (A:=X.A.in1) I (I.ok.hd c) d λa f g i St o b W st j keep=>?_);refine⟨f,g,i,a.length,_,St,Ef true ys,rfl,W,st,ym true b ok,λk t l=>?_⟩;rw[<- b.length,Nb];exact⟨.bl _,H,I.kept (keep k l),rfl,q⟩
end
def sO{x:b9} (a:s.heap.IsTupleIter it t i) (h:s.heap.IsTuple t b) (j:b[i]?=some x)
  (k:∀e,e.IsTupleIter it t (i+1)->F5 it s.heap e->Q x { s with heap:=e }):j8 (n6 prog w) A (J3 (.ref it)) Q E s:=by
 obtain⟨o,d,l,c⟩:=id a;obtain⟨m,f,_,p,g⟩:=h;unfold J3;refine b7 (F6 (name:=K9 "__next__") a.typeIs cV
  (G1 cV a.typeIs Aa ?_ (yg _)))
 show j8 _ _ (uh (.ref it) 0 >>= _) _ _ s;refine b7 (D5 d c (x:=.ref t) rfl ?_);show j8 _ _ (if (r6 t == B4)=true then _ else _) _ _ s;rw[ZC (show ¬ ((r6 t == B4)=true) from v8)];show j8 _ _ (uh (.ref it) 1 >>= _) _ _ s;refine b7 (D5 d c (x:=.int i 0) rfl ?_);show j8 _ _ (seqItems? (.ref t) >>= _) _ _ s;refine b7 (da f g ?_);simp only[M9,j];refine b7 (S7 d c (by simp) (f9 ⟨x,rfl,f9 (k _ ?_ (N1 ..))⟩));exact⟨_,K2 _ d (V9 (M3 c _)),(jZ ..).trans l,by rw[M3 c];simp[N6]⟩
section
variable {s:d9}
def vt(h:A.handled=none) (a:s.heap.IsTupleIter it t i) (j:s.heap.IsTuple t its) (k:its[i]?=none)
  (l:∀b e,gB it s.heap b->(∃o,b.get? e=some o/\o.cls=.type "StopIteration")->E (.ref e) { s with heap:=b }):j8 (n6 prog w) A (J3 (.ref it)) Q E s:=by
 obtain⟨o,c,m,d⟩:=id a;obtain⟨p,f,_,q,g⟩:=j;unfold J3;refine b7 (F6 (name:=K9 "__next__") a.typeIs cV
  (G1 cV a.typeIs Aa ?_ (yg _)))
 show j8 _ _ (uh (.ref it) 0 >>= _) _ _ s;refine b7 (D5 c d (x:=.ref t) rfl ?_);show j8 _ _ (if (r6 t == B4)=true then _ else _) _ _ s;rw[ZC (show ¬ ((r6 t == B4)=true) from v8)];show j8 _ _ (uh (.ref it) 1 >>= _) _ _ s;refine b7 (D5 c d (x:=.int i 0) rfl ?_);show j8 _ _ (seqItems? (.ref t) >>= _) _ _ s;refine b7 (da f g ?_);simp only[M9,k];refine b7 (X6 (b7 (S7 c d (by simp) ?_)));show j8 _ _ (xY (.type "StopIteration") [] >>= _) _ _ _;refine b7 ?_;simp only[xY,DN];refine b7 (E4 ?_ (by size_fits));refine b7 (m:=bL _ _) (qI (a:=B4) (by first|rfl | (simp only[bL];rfl)) ?_);refine E4 ?_ (by size_fits);simp only[Oj];refine b7 (uf ?_);first|rw[show A.in1.handled=none from h]|rw[h]
 exact b7 (f9 (qH (l _ _ (((N1 ..).extBut.push _).push _) ⟨_,j7 _ rfl,rfl⟩)))
def KA:Bool->m9->Hp->Addr->List V->Prop
 | false=>jb
 | true=>jc
def xU:Bool->Heap->Addr->Array b9->Prop
 | false=>Uw
 | true=>Heap.IsList
def Af:Bool->Heap->Addr->Addr->Nat->Prop
 | false=>Heap.IsTupleIter
 | true=>Heap.IsListIter
def itN:Bool->String
 | false=>"tuple_iterator"
 | true=>"list_iterator"
abbrev Sy (p:Bool) (t:Addr):Obj:={ cls:=.type (itN p),data:=.fields #[.ref t,.int 0 0] }
variable {h:Heap}
def _root_.PySem.Heap.IsList.at'{h':Heap} (x:h.IsList a items) (e:∀o,h.get? a=some o->h'.get? a=some o):h'.IsList a items:=let ⟨o,b,r⟩:=x;⟨o,e _ b,r⟩
theorem xU.at(x:xU p h a xs) (e:∀o,h.get? a=some o->h'.get? a=some o):xU p h' a xs:=by
 cases p
 .exact Heap.IsTuple.at x e
 .exact Heap.IsList.at' x e
variable {p:Bool}
def xU.lt(x:xU p h a xs):a<h.objs.size:=by cases p <;> exact let ⟨_,b,_⟩:=x;i5 b
theorem Af.at(x:Af p h a t k) (e:∀o,h.get? a=some o->h'.get? a=some o):Af p h' a t k:=by
 cases p
 .exact Heap.IsTupleIter.at x e
 .exact Heap.IsListIter.at x e
def Af.ob(x:Af p h a t k):∃o,h.get? a=some o/\o.data=.fields #[.ref t,.int k 0]:=by cases p <;> exact let ⟨o,b,_,c⟩:=x;⟨o,b,c⟩
def Af.new(e:h.get? a=some (Sy p t)):Af p h a t 0:=by cases p <;> exact⟨_,e,rfl,rfl⟩
def sP{x:b9}(a:Af p s.heap it t i) (c:xU p s.heap t its) (d:its[i]?=some x)
  (e:∀b,Af p b it t (i+1)->F5 it s.heap b->Q x { s with heap:=b }):j8 (n6 prog w) A (J3 (.ref it)) Q E s:=by
 cases p
 .exact sO a c d e
 .exact wpAny_nextOf_list_item a c d e
def EG(c:A.handled=none) (a:Af p s.heap it t i) (d:xU p s.heap t its) (f:its[i]?=none)
  (g:∀b e,gB it s.heap b->(∃o,b.get? e=some o/\o.cls=.type "StopIteration")->E (.ref e) { s with heap:=b }):j8 (n6 prog w) A (J3 (.ref it)) Q E s:=by
 cases p
 .exact vt c a d f g
 .exact wpAny_nextOf_list_end c a d f g
def NP(a:xU p s.heap t xs) (h:Q (.ref s.heap.objs.size) { s with heap:=s.heap.push (Sy p t) }):j8 (n6 prog w) A (qJ (.ref t)) Q E s:=by
 cases p
 .exact cj a h
 .exact ly a h
structure Fz (p q:Bool) (h:Heap) (z TI TO i1 i2 t1 t2:Addr) (k:Nat):Prop where
 zz:Eb h z TI TO .none
 ti:uA h TI (.ref i1) (.ref i2)
 tO:∃a b,uA h TO a b
 it1:Af p h i1 t1 k
 it2:Af q h i2 t2 k
structure Cc (z TI TO i1 i2 t1 t2:Addr):Prop where
 a1:TI≠z
 a2:TO≠z
 a3:i1≠z
 a4:i2≠z
 b1:TI≠TO
 b2:TI≠i1
 b3:TI≠i2
 c1:TO≠i1
 c2:TO≠i2
 d1:i1≠i2
 e1:t1≠z
 e2:t1≠TO
 e3:t1≠i1
 e4:t1≠i2
 f1:t2≠z
 f2:t2≠TO
 f3:t2≠i1
 f4:t2≠i2
variable {n:Nat}
def iY(h:a≠b):n+a≠n+b:=by lia
def qx(h:t<n):t≠n+a:=by lia
def Cc.new(a:c<n) (b:d<n):Cc (n+4) (n+2) (n+3) n (n+1) c d where
 a1:=iY (by decide)
 a2:=iY (by decide)
 a3:=iY (n:=n) (a:=0) (by decide)
 a4:=iY (by decide)
 b1:=iY (by decide)
 b2:=iY (n:=n) (b:=0) (by decide)
 b3:=iY (by decide)
 c1:=iY (n:=n) (b:=0) (by decide)
 c2:=iY (by decide)
 d1:=iY (n:=n) (a:=0) (by decide)
 e1:=qx a
 e2:=qx a
 e3:=qx (a:=0) a
 e4:=qx a
 f1:=qx b
 f2:=qx b
 f3:=qx (a:=0) b
 f4:=qx b
def Ec{z TI TO m r:Addr}{x y:b9}{Q:Option b9->d9->Prop} (D:Cc z TI TO m r t1 t2) (Z:Fz p q s.heap z TI TO m r t1 t2 k) (O:xU p s.heap t1 xs) (P:xU q s.heap t2 ys)
  (hx:xs[k]?=some x) (hy:ys[k]?=some y)
  (hQ:∀j,Eb j z TI TO (N6 s.heap.objs.size)->uA j TO x y->Af p j m t1 (k+1)->Af q j r t2 (k+1)->uA j s.heap.objs.size x y->j.objs.size=s.heap.objs.size+1 ->
   (∀c o,c ∉ [z,TO,m,r]->s.heap.get? c=some o->j.get? c=some o)->Q (some (.ref s.heap.objs.size)) { s with heap:=j }):
  j8 (n6 prog w) A (Y3 (.ref z)) Q E s:=by
 obtain⟨u,R,⟨a,b,S⟩,h1,h2⟩:=Z;have hT:s.TypeIs (.ref z) "zip":=⟨_,u,rfl⟩
 unfold Y3;refine b7 (S8 (F6 (name:=K9 "__next__") hT nE (G1 nE hT RZ ?_ (Rt _))));show j8 _ _ (uh (.ref z) 2 >>= _) _ _ _;refine b7 (D5 u rfl (x:=.bool false) rfl ?_);show j8 _ _ (uh (.ref z) 3 >>= _) _ _ _;refine b7 (D5 u rfl (x:=.ref TI) rfl (b7 (da R rfl ?_)));show j8 _ _ (M0 (.ref z) >>= _) _ _ _;refine b7 ?_;unfold M0;refine b7 (D5 u rfl (x:=.none) rfl (f9 ?_));simp only[if_true];refine b7 (X6 (b7 (D5 u rfl (x:=.ref TO) rfl (b7 (F0 u (by simp) λg1 z1 t=>?_)))));replace z1:Eb g1 z TI TO .ellipsis:=z1
 refine b7 ?_;simp only[ui,Oq,bP,fe];refine b7 (b7 (ue ?_));show j8 _ _ (J3 (.ref m) >>= _) _ _ _;refine b7 (sP (h1.at λo e=>t.extBut _ o D.a3 e) (O.at λo e=>t.extBut _ o D.e1 e) hx λg2 j1 v=>f9 ?_);have Y:uA g2 TO a b:=v.extBut _ _ D.c1 (t.extBut _ _ D.a2 S);refine b7 (da Y rfl (b7 (Od Y λg3 T C=>?_)));replace T:uA g3 TO x b:=T
 refine b7 (zQ (f9 (b7 (b7 (ue ?_)))));show j8 _ _ (J3 (.ref r) >>= _) _ _ _;refine b7 (sP (h2.at λo e=>C.extBut _ o D.c2.symm (v.extBut _ o D.d1.symm (t.extBut _ o D.a4 e))) (P.at λo e=>C.extBut _ o D.f2 (v.extBut _ o D.f3 (t.extBut _ o D.f1 e))) hy λg4 j2 I=>f9 ?_);have o4:uA g4 TO x b:=I.extBut _ _ D.c2 T;refine b7 (da o4 rfl (b7 (Od o4 λd N J=>?_)));replace N:uA d TO x y:=N
 refine b7 (zQ (f9 (f9 ?_)));refine b7 (da N rfl (b7 (fU ?_)));have K:d.objs.size=s.heap.objs.size:=by rw[J.1,I.1,C.1,v.1,t.1]
 have z5:Eb d z TI TO .ellipsis:=J.extBut _ _ D.a2.symm (I.extBut _ _ D.a4.symm (C.extBut _ _ D.a2.symm (v.extBut _ _ D.a3.symm z1)));have k5:∀c o,c ∉ [z,TO,m,r]->s.heap.get? c=some o->d.get? c=some o:=λc o f e=>by simp only[C7,B7,or_false,not_or] at f;exact J.extBut _ _ f.2.1 (I.extBut _ _ f.2.2.2 (C.extBut _ _ f.2.1 (v.extBut _ _ f.2.2.1 (t.extBut _ _ f.1 e))))
 have m1:Af p d m t1 (k+1):=j1.at λo e=>J.extBut _ o D.c1.symm (I.extBut _ o D.d1 (C.extBut _ o D.c1.symm e));have m2:Af q d r t2 (k+1):=j2.at λo e=>J.extBut _ o D.c2.symm e;show j8 _ _ (V4 (.ref z) (.ref d.objs.size) >>= _) _ _ _;refine b7 ?_;unfold V4;have z6:Eb (d.push { cls:=.type "tuple",data:=.seq #[x,y] }) z TI TO .ellipsis:=f6 _ z5;refine b7 (F0 z6 (by simp) λg7 z7 U=>?_);replace z7:Eb g7 z TI TO (N6 d.objs.size):=z7
 refine F0 z7 (by simp) λL z8 V=>?_;replace z8:Eb L z TI TO (N6 d.objs.size):=z8
 have up:∀c o,c≠z->d.get? c=some o->L.get? c=some o:=λc o f e=>V.extBut _ _ f (U.extBut _ _ f (f6 _ e));have l:uA L d.objs.size x y:=V.extBut _ _ (D2 (i5 z5)) (U.extBut _ _ (D2 (i5 z5)) (j7 _ rfl));have g:L.objs.size=d.objs.size+1:=by rw[V.1,U.1,D7]
 rw[K] at z8 l g;refine f9 ⟨_,rfl,f9 ?_⟩;show Q (some (.ref d.objs.size)) _;rw[K];exact hQ L z8 (up _ _ D.a2 N) (m1.at λo e=>up _ o D.a3 e) (m2.at λo e=>up _ o D.a4 e) l g λc o f e=>up c o (λq=>f (by simp[q])) (k5 c o f e)
def Gm{z TI TO j m:Addr}{Q:Option b9->d9->Prop} (J:A.handled=none) (D:Cc z TI TO j m t1 t2) (Z:Fz p q s.heap z TI TO j m t1 t2 k) (r:xU p s.heap t1 xs)
  (K:xs[k]?=none) (L:∀y,(∀c o,c ∉ [z,TO,j,m]->s.heap.get? c=some o->y.get? c=some o)->Q none { s with heap:=y }):j8 (n6 prog w) A (Y3 (.ref z)) Q E s:=by
 obtain⟨f,t,⟨a,b,N⟩,O,V⟩:=Z;have hT:s.TypeIs (.ref z) "zip":=⟨_,f,rfl⟩
 unfold Y3;refine b7 (S8 (F6 (name:=K9 "__next__") hT nE (G1 nE hT RZ ?_ (Rt _))));show j8 _ _ (uh (.ref z) 2 >>= _) _ _ _;refine b7 (D5 f rfl (x:=.bool false) rfl ?_);show j8 _ _ (uh (.ref z) 3 >>= _) _ _ _;refine b7 (D5 f rfl (x:=.ref TI) rfl (b7 (da t rfl ?_)));show j8 _ _ (M0 (.ref z) >>= _) _ _ _;refine b7 ?_;unfold M0;refine b7 (D5 f rfl (x:=.none) rfl (f9 ?_));simp only[if_true];refine b7 (X6 (b7 (D5 f rfl (x:=.ref TO) rfl (b7 (F0 f (by simp) λP z1 u=>?_)))));replace z1:Eb P z TI TO .ellipsis:=z1
 refine b7 ?_;simp only[ui,Oq,bP,fe];refine b7 (b7 (ue ?_));show j8 _ _ (J3 (.ref j) >>= _) _ _ _;refine b7 (EG J (O.at λo e=>u.extBut _ o D.a3 e) (r.at λo e=>u.extBut _ o D.e1 e) K λR e C S=>?_);obtain⟨T,d,g⟩:=S;have z2:Eb R z TI TO .ellipsis:=C _ _ D.a3.symm z1;have v:e≠z:=λq=>by subst q;rw[z2] at d;cases d;simp at g
 refine F0 z2 (by simp) λU _ I=>?_;refine b7 (hV (T:="StopIteration") (b:=true) ⟨T,I.extBut _ _ v d,g⟩ ko (f9 (L U λc o l q=>?_)));simp only[C7,B7,or_false,not_or] at l;exact I.extBut _ _ l.1 (C _ _ l.2.2.1 (u.extBut _ _ l.1 q))
abbrev Sg (t:Addr):Obj:={ cls:=.type "tuple_iterator",data:=.fields #[.ref t,.int 0 0] }
abbrev tpr (a b:b9):Obj:={ cls:=.type "tuple",data:=.seq #[a,b] }
abbrev zob (a b:Addr):Obj:={ cls:=.type "zip",data:=.fields #[.none,.bool false,.bool false,.ref a,.ref b] }
abbrev Nv (p q:Bool) (h:Heap) (t1 t2:Addr):Heap:=((((h.push (Sy p t1)).push (Sy q t2)).push (tpr (.ref h.objs.size) (.ref (h.objs.size+1)))).push (tpr .none .none)).push (zob (h.objs.size+2) (h.objs.size+3))
def Gk (p q:Bool) (t1 t2:Addr) (xs ys:Array b9):
  Meets (iw.«zip.__new__» ⟨[.type "zip",.ref t1,.ref t2],[]⟩) (λ_ R s=>xU p s.heap t1 xs/\xU q s.heap t2 ys/\R (.ok (.ret (.ref (s.heap.objs.size+4)))) { s with heap:=Nv p q s.heap t1 t2 }):=
 .of_wp λprog w A R s h=>by
  obtain⟨j,g,d,k,os⟩:=s;obtain⟨a,b,h⟩:=h;have l:=sub_zip;have c:xU p (Cm ⟨j,g,d,k,os⟩) t1 xs:=a;have f:xU q (Cm ⟨j.push (Sy p t1),g,d,k,os⟩) t2 ys:=b.at λo e=>f6 _ e
  wp_walk using NP c,NP f
  simp only[D7];exact⟨_,rfl,h⟩
def Fi(g:xU p s.heap t1 xs) (j:xU q s.heap t2 ys)
  (h:∀f,Fz p q f (s.heap.objs.size+4) (s.heap.objs.size+2) (s.heap.objs.size+3) s.heap.objs.size (s.heap.objs.size+1) t1 t2 0->(∀c o,s.heap.get? c=some o->f.get? c=some o)->f.objs.size=s.heap.objs.size+5 ->
   Q (.ref (s.heap.objs.size+4)) { s with heap:=f }):j8 (n6 prog w) A (call (.type "zip") [.ref t1,.ref t2]) Q E s:=by
 refine callType_new F.called_zip (by decide) (F.typeCall_zip_2 _ _) (F.newCall_zip_2 _ _) (λobj=>F.args_object_init_3 obj _ _) F.entry_zip_new (Gk p q t1 t2 xs ys) ⟨g,j,?_⟩;have up:∀{b:Addr}{o:Obj} (d:Heap) (x:Obj),d.get? b=some o->(d.push x).get? b=some o:=λ_ _ e=>f6 _ e;have a:∀(d:Heap) (x:Obj) (n:Nat),x.isFreed=false->d.objs.size=n->(d.push x).get? n=some x:=λd x n k e=>by subst e;exact j7 _ k
 have Z:Fz p q (Nv p q s.heap t1 t2) (s.heap.objs.size+4) (s.heap.objs.size+2) (s.heap.objs.size+3) s.heap.objs.size (s.heap.objs.size+1) t1 t2 0 :=
  ⟨a _ _ _ rfl (by simp only[D7]),up _ _ (up _ _ (a _ _ _ rfl (by simp only[D7]))),⟨_,_,up _ _ (a _ _ _ rfl (by simp only[D7]))⟩,
   .new (up _ _ (up _ _ (up _ _ (up _ _ (a _ _ _ rfl rfl))))),.new (up _ _ (up _ _ (up _ _ (a _ _ _ rfl (by simp only[D7])))))⟩
 exact⟨⟨_,Z.zz,rfl⟩,h _ Z (λc o e=>up _ _ (up _ _ (up _ _ (up _ _ (up _ _ e))))) (by simp only[D7])⟩
end
section
variable {σ:St}
def D1.turnedL{ch:List Addr} (I:D1 X pins σ H s) (k:∀b o,b ∉ ch->s.heap.get? b=some o->h'.get? b=some o) (d:∀b∈ch,gZ X pins H b):D1 X pins σ H { s with heap:=h',toks:=t' }:=by
 have f:∀b u,H b=some u->b ∉ ch:=λb u e z=>by rw[(d b z).1] at e;cases e
 refine I.step (g':=s.gens) (d':=s.drawn) (ch:=ch) (λb g=>⟨(d b g).2.2.2.1,(d b g).2.1,(d b g).2.2.2.2.1,(d b g).2.2.2.2.2⟩) (λb o _ _ a e _=>k b o a e) (λb o _ _ a e _=>⟨o.slots,k b o a e⟩) (λ_ _ _ _ n=>n)
  (λb o a e=>⟨o,k b o a e⟩) (λ_ _ e=>e) (λ_ _ _ e=>e) (λb p e=>⟨#[],by rw[e];simp⟩) (λm h=>?_) (λb u e=>?_) I.bare
 .obtain⟨o,i,j,l,r⟩:=h;exact⟨o,i,j,k _ o (λz=>(d _ z).2.1 rfl) l,r⟩
 .refine (I.hok b u e).stay (λc v a q=>k c v ?_ q) (λ_ q=>q) λ_ _ q=>q;obtain z|z:=a
  .rw[z];exact f b u e
  .exact f c _ z
def D1.sqB(I:D1 X pins σ H s) (h:KA p X.K H a xs):∃b:List b9,J9 xs b/\xU p s.heap a b.toArray:=by
 cases p
 .exact let ⟨b,r,e,_⟩:=I.tuple h;⟨b,r,e⟩
 .exact let ⟨b,r,e,_⟩:=I.list h;⟨b,r,e.isList⟩
def D1.sqB_inj(I:D1 X pins σ H s) (h:KA p X.K H a xs) (h':KA p X.K H a ys):xs=ys:=by
 cases p
 .exact I.tuple_inj h h'
 .exact I.list_inj h h'
def ItzB (p q:Bool) (K:m9) (a b:Addr):It :=
 ⟨λi H=>∃xs c x y,KA p K H a xs/\KA q K H b c/\xs[i]?=some x/\c[i]?=some y,λi H v H'=>∃r x y,H r=none/\v=.ref r/\H'=C3 H r (.tup [x,y])/\(∀xs,KA p K H a xs->xs[i]?=some x)/\∀c,KA q K H b c->c[i]?=some y,
  λi H=>∃xs,KA p K H a xs/\xs.length<=i⟩
def vb{K:m9}{a b z TI TO J L:Addr} (D:Cc z TI TO J L a b):
  pV P w K (.Tuple es kk pos) (ItzB p q K a b) [z,TI,TO,J,L] z (λi h=>Fz p q h z TI TO J L a b i) where
 mem:=by simp
 obj:=λi h st c f=>by
  obtain⟨R,j,⟨_,_,l⟩,t,g⟩:=st;obtain⟨_,t,d1⟩:=t.ob;obtain⟨_,g,d2⟩:=g.ob;simp only[C7,B7,or_false] at f;obtain rfl|rfl|rfl|rfl|rfl:=f
  .exact⟨_,R,λv q=>by cases q⟩
  .exact⟨_,j,λv q=>by cases q⟩
  .exact⟨_,l,λv q=>by cases q⟩
  .exact⟨_,t,λv q=>by rw[d1] at q;cases q⟩
  .exact⟨_,g,λv q=>by rw[d2] at q;cases q⟩
 keep:=λi h N st k=>by obtain⟨R,j,⟨_,_,l⟩,t,g⟩:=st;exact⟨k _ (by simp) _ R,k _ (by simp) _ j,⟨_,_,k _ (by simp) _ l⟩,t.at λo e=>k _ (by simp) o e,g.at λo e=>k _ (by simp) o e⟩
 item:=by
  intro X U V Y f i pins s σ H E I C st Z;subst U V Y;obtain⟨xs,ys,x,y,T,hb,hx,hy⟩:=Z;obtain⟨a0,r1,p1⟩:=I.sqB T;obtain⟨a5,r2,p2⟩:=I.sqB hb;obtain⟨u,hu,ru⟩:=r1.get hx;obtain⟨v,hv,rv⟩:=r2.get hy;refine Ec D st p1 p2 (x:=u) (y:=v) (by simpa using hu) (by simpa using hv) λN z1 o1 j1 j2 new sz keep=>?_;refine⟨_,rfl,wpAny_letOwnedTupleGo_zip (s:={ s with heap:=N }) z1 λg z2 O=>?_⟩;have Q:H s.heap.objs.size=none:=I.hok.fresh (i4 _);have a1:z<s.heap.objs.size:=i5 st.zz;have k2:∀c o,c ∉ [z,TI,TO,J,L]->s.heap.get? c=some o->g.get? c=some o:=λc o f e=>by simp only[C7,B7,or_false,not_or] at f;exact O.extBut _ _ f.1 (keep c o (by simp only[C7,B7,or_false,not_or];exact⟨f.1,f.2.2.1,f.2.2.2.1,f.2.2.2.2⟩) e)
  have e0:g.get? s.heap.objs.size=some { cls:=.type "tuple",data:=.seq #[u,v] }:=O.extBut _ _ (D2 a1) new;have a2:∀c o,s.heap.get? c=some o->c≠s.heap.objs.size:=λc o e=>y7 (i5 e);have S:∀c u,H c=some u->c ∉ [z,TI,TO,J,L]:=λc u e q=>by rw[(C c q).1] at e;cases e
  have a3:dQ X.prog X.w (C3 H s.heap.objs.size (.tup [x,y])) g:=λc ob e=>by
   by_cases hq:c=s.heap.objs.size
   .subst hq;rw[j3] at e;cases e;exact⟨⟨by show 2<=j6;decide,_,e0,rfl⟩,[u,v],.cons ru (.cons rv .nil),⟨_,e0,rfl,_,rfl⟩⟩
   .rw[t9 hq] at e;refine (I.hok c ob e).stay (λd w' hd q=>k2 d w' ?_ q) (λd q=>by rw[t9 (A5 q Q)];exact q) λd xs q=>by rw[t9 (A5 q Q)];exact q
    obtain rfl|hd:=hd
    .exact S d ob e
    .exact S d _ hd
  have I2:D1 X pins σ (C3 H s.heap.objs.size (.tup [x,y])) { s with heap:=g }:=by
   refine I.step (g':=s.gens) (d':=s.drawn) (t':=s.toks) (ch:=[z,TI,TO,J,L]) (λc f=>⟨(C c f).2.2.2.1,(C c f).2.1,(C c f).2.2.2.2.1,(C c f).2.2.2.2.2⟩) (λc o _ _ f e _=>k2 c o f e) (λc o _ _ f e _=>⟨o.slots,k2 c o f e⟩)
    (λc o _ e n=>by rw[t9 (a2 c o e)];exact n) (λc o f e=>⟨o,k2 c o f e⟩) (λc xs e=>by rw[t9 (A5 e Q)];exact e) (λc o u e=>by rw[t9 (A5 e Q)];exact e) (λc ps e=>⟨#[],by rw[t9 (A5 e Q),e];simp⟩) (λm hm=>?_) a3 I.bare
   obtain⟨o,es,ep,ho,r⟩:=hm;exact⟨o,es,ep,k2 _ o (λq=>(C _ q).2.1 rfl) ho,r⟩
  refine⟨.ref s.heap.objs.size,_,I2,rfl,⟨_,x,y,Q,rfl,rfl,λa6 N=>by rw[I.sqB_inj N T];exact hx,λa7 N=>by rw[I.sqB_inj N hb];exact hy⟩,?_,λc f=>?_⟩
  .exact⟨z2,O.extBut _ _ D.a1 (keep _ _ (by simp only[C7,B7,or_false,not_or];exact⟨D.a1,D.b1,D.b2,D.b3⟩) st.ti),⟨_,_,O.extBut _ _ D.a2 o1⟩,j1.at λo e=>O.extBut _ o D.a3 e,j2.at λo e=>O.extBut _ o D.a4 e⟩
  .have a4:c<s.heap.objs.size:=by
    obtain⟨R,j,⟨_,_,l⟩,t,g⟩:=st;obtain⟨_,t,_⟩:=t.ob;obtain⟨_,g,_⟩:=g.ob;simp only[C7,B7,or_false] at f;obtain rfl|rfl|rfl|rfl|rfl:=f
    .exact i5 R
    .exact i5 j
    .exact i5 l
    .exact i5 t
    .exact i5 g
   rw[t9 (y7 a4)];exact(C c f).1
 done:=by
  intro X U V Y f i pins s σ H E I C st Z;subst U V Y;obtain⟨xs,T,hx⟩:=Z;obtain⟨a0,r1,p1⟩:=I.sqB T;have hl:=r1.length;refine Gm (I.ok.hd f) D st p1 (by simp;lia) λN keep=>⟨rfl,I.turnedL (t':=s.toks) (ch:=[z,TI,TO,J,L]) (λc o f e=>keep c o (λq=>f ?_) e) C⟩
  simp only[C7,B7,or_false] at q ⊢;obtain q|q|q|q:=q
  .exact .inl q
  .exact .inr (.inr (.inl q))
  .exact .inr (.inr (.inr (.inl q)))
  .exact .inr (.inr (.inr (.inr q)))
 self:=λ_ _ _ _ _ st h=>UI st.zz h
def yh(I:D1 X pins σ H s) (o:KA p X.K H a xs) (r:KA q X.K H b ys)
  (T:∀{z TI TO e f:Addr},Cc z TI TO e f a b->pV X.prog X.w X.K (.Tuple es kk pt) J [z,TI,TO,e,f] z (λi h=>Fz p q h z TI TO e f a b i)) (h:R J H):
  j8 (n6 X.prog X.w) X.A (call (.type "zip") [.ref a,.ref b]) (λv t=>j8 (n6 X.prog X.w) X.A (qJ v) (TU X pins σ (.Tuple es kk pt) R) X.xe t) X.xe s:=by
 obtain⟨u,y,g⟩:=I.sqB o;obtain⟨j,C,k⟩:=I.sqB r;refine Fi g k λl Z keep sz=>?_;refine UI (s:={ s with heap:=l }) Z.zz ?_;have w:D1 X pins σ H { s with heap:=l }:=I.kept (t':=s.toks) keep;refine⟨s.heap.objs.size+4,[s.heap.objs.size+4,s.heap.objs.size+2,s.heap.objs.size+3,s.heap.objs.size,s.heap.objs.size+1],_,_,H,rfl,w,T (Cc.new g.lt k.lt),Z,λc m=>?_,h⟩;have d:s.heap.objs.size<=c:=by simp only[C7,B7,or_false] at m;rcases m with rfl|rfl|rfl|rfl|rfl <;> first|exact kJ _ _|exact i4 _
 exact I.fpOk d (I.hok.fresh d)
def CN{D:List V->Hp->(It->Hp->Prop)->Prop}{pt p pos:Pos} (j:Gl X "zip") (k:X.mg "zip"=none) (l:PA X [e1,e2] f)
  (m:∀{pins s σ H c R},D1 X pins σ H s->D c H R->∃a b,c=[V.ref a,V.ref b]/\j8 (n6 X.prog X.w) X.A (call (.type "zip") [.ref a,.ref b]) (λv g=>j8 (n6 X.prog X.w) X.A (qJ v) (TU X pins σ (.Tuple es kk pt) R) X.xe g) X.xe s)
  (hs:B9 [e1,e2] X.env=[(false,eval e1 X.env),(false,eval e2 X.env)]) (d:B9 [e2] X.env=[(false,eval e2 X.env)]):
  PI X (.Tuple es kk pt) (.Call (.Name "zip" p) [e1,e2] [] pos) (λσ H R=>f σ H λc i=>D c i R):=by
 intro pins s σ H R I h;refine Call_ (pP I j k boot_zip (bp (S6 (l pos pins s σ H _ I h) λy g ⟨c,i,o,r,t⟩=>?_) (by rw[hs,d]) (by rw[d];rfl)));obtain⟨a,b,rfl,q⟩:=m o t;cases r with
 | cons u e =>
  cases e with
  | cons w e =>
   cases e;cases u;cases w;exact q
end
def Itz (K:m9) (a b:Addr):It :=
 ⟨λi H=>∃c d x y,jb K H a c/\jb K H b d/\c[i]?=some x/\d[i]?=some y,λi H v H'=>∃p x y,H p=none/\v=.ref p/\H'=C3 H p (.tup [x,y])/\(∀c,jb K H a c->c[i]?=some x)/\∀d,jb K H b d->d[i]?=some y,
  λi H=>∃c,jb K H a c/\c.length<=i⟩
def iZip (K:m9) (d:TA):TI:=λe H R=>d e H λf c=>∃a b g h,f=[.ref a,.ref b]/\jb K c a g/\jb K c b h/\R (Itz K a b) c
def PF{es:List Expr}{c:Nat}{pt p pos:Pos} (d:Gl X "zip") (f:X.mg "zip"=none) (g:PA X [e1,e2] b) (hs:B9 [e1,e2] X.env=[(false,eval e1 X.env),(false,eval e2 X.env)]:=by rfl) (a:B9 [e2] X.env=[(false,eval e2 X.env)]:=by rfl):
  PI X (.Tuple es c pt) (.Call (.Name "zip" p) [e1,e2] [] pos) (iZip X.K b):=
 CN d f g (λI ⟨_,_,_,_,e,i,j,h⟩=>⟨_,_,e,yh (p:=false) (q:=false) I i j (λD=>vb D) h⟩) hs a
mutual
def Dt (st:Addr) (H:Hp):E7->V->Prop
 | .none,v=>v=.non
 | .bool b,v=>v=.bl b
 | .int i,v=>v=.int i
 | .str x,v=>v=.str x
 | .tuple d,v=>∃a c,v=.ref a/\a≠st/\H a=some (.tup c)/\Z5 st H d c
 | .list d,v=>∃a c,v=.ref a/\a≠st/\H a=some (.lst c)/\Z5 st H d c
 | .dict _,v=>∃a e,v=.ref a/\a≠st/\H a=some (.dK e)
def Z5 (st:Addr) (H:Hp):List E7->List V->Prop
 | [],a=>a=[]
 | d::b,a=>∃x r,a=x::r/\Dt st H d x/\Z5 st H b r
end
def Kp (st:Addr) (H H':Hp):Prop:=∀b o,b≠st->H b=some o->H' b=some o
def Kp.refl (st:Addr) (H:Hp):Kp st H H:=λ_ _ _ e=>e
def Kp.trans{st:Addr} (a:Kp st H d) (b:Kp st d f):Kp st H f:=λc o n e=>b c o n (a c o n e)
def u7.kp (a:u7 H H') (st:Addr):Kp st H H':=λb o _ e=>a b o e
def u7.new(h:H p=none):u7 H (C3 H p o):=λb u q=>by rw[t9 (A5 q h)];exact q
theorem Kp.new{st:Addr} (h:H p=none):Kp st H (C3 H p o):=(u7.new h).kp st
def Kp.at{st:Addr}:Kp st H (C3 H st o):=λb u n q=>by rw[t9 n];exact q
mutual
theorem Dt.kp {st:Addr}{H H':Hp} (k:Kp st H H'):∀{d:E7}{v:V},Dt st H d v->Dt st H' d v
 | .none,_,h=>by unfold Dt at h ⊢;exact h
 | .bool _,_,h=>by unfold Dt at h ⊢;exact h
 | .int _,_,h=>by unfold Dt at h ⊢;exact h
 | .str _,_,h=>by unfold Dt at h ⊢;exact h
 | .tuple c,_,h=>by
  unfold Dt at h ⊢;obtain⟨a,b,e,n,q,r⟩:=h;exact⟨a,b,e,n,k a _ n q,Z5.kp k r⟩
 | .list c,_,h=>by
  unfold Dt at h ⊢;obtain⟨a,b,e,n,q,r⟩:=h;exact⟨a,b,e,n,k a _ n q,Z5.kp k r⟩
 | .dict f,_,h=>by unfold Dt at h ⊢;obtain⟨a,g,e,n,q⟩:=h;exact⟨a,g,e,n,k a _ n q⟩
theorem Z5.kp {st:Addr}{H H':Hp} (k:Kp st H H'):∀{ds:List E7}{xs:List V},Z5 st H ds xs->Z5 st H' ds xs
 | [],_,h=>by unfold Z5 at h ⊢;exact h
 | d::ds,_,h=>by unfold Z5 at h ⊢;obtain⟨x,r,e,a,b⟩:=h;exact⟨x,r,e,Dt.kp k a,Z5.kp k b⟩
end
theorem Dt.int (st:Addr) (H:Hp) (i:Int):Dt st H (.int i) (.int i):=by unfold Dt;rfl
theorem Dt.str (st:Addr) (H:Hp) (x:Str):Dt st H (.str x) (.str x):=by unfold Dt;rfl
theorem Dt.tup {st:Addr}{H:Hp}{a:Addr}{xs:List V}{ds:List E7} (n:a≠st) (h:H a=some (.tup xs)) (r:Z5 st H ds xs):Dt st H (.tuple ds) (.ref a):=by unfold Dt;exact⟨a,xs,rfl,n,h,r⟩
def Z5.nil (st:Addr) (H:Hp):Z5 st H [] []:=by unfold Z5;rfl
def Z5.cons {st:Addr}{H:Hp}{d:E7}{ds:List E7}{x:V}{xs:List V} (h:Dt st H d x) (r:Z5 st H ds xs):Z5 st H (d::ds) (x::xs):=by unfold Z5;exact⟨x,xs,rfl,h,r⟩
def Z5.uncons{st:Addr} (h:Z5 st H (d::ds) xs):∃x r,xs=x::r/\Dt st H d x/\Z5 st H ds r:=by unfold Z5 at h;exact h
theorem Z5.len {st:Addr}{H:Hp}:∀{ds:List E7}{xs:List V},Z5 st H ds xs->ds.length=xs.length
 | [],_,h=>by unfold Z5 at h;subst h;rfl
 | d::ds,_,h=>by obtain⟨x,r,e,_,q⟩:=h.uncons;subst e;rw[n5,n5,Z5.len q]
theorem Z5.append {st:Addr}{H:Hp}:∀{ds es:List E7}{xs ys:List V},Z5 st H ds xs->Z5 st H es ys->Z5 st H (ds++es) (xs++ys)
 | [],_,_,_,h,q=>by unfold Z5 at h;subst h;exact q
 | d::ds,_,_,_,h,q=>by obtain⟨x,r,e,a,b⟩:=h.uncons;subst e;exact Z5.cons a (Z5.append b q)
theorem Z5.get {st:Addr}{H:Hp}:∀{ds:List E7}{xs:List V}{i:Nat}{x:V},Z5 st H ds xs->xs[i]?=some x->∃d,ds[i]?=some d/\Dt st H d x
 | [],_,i,x,h,e=>by unfold Z5 at h;subst h;simp at e
 | d::ds,_,0,x,h,e=>by
  obtain⟨y,r,e1,a,b⟩:=h.uncons;subst e1;simp at e;subst e;exact⟨d,rfl,a⟩
 | d::ds,_,i+1,x,h,e=>by obtain⟨y,r,e1,a,b⟩:=h.uncons;subst e1;obtain⟨c,e2,f⟩:=Z5.get (i:=i) (x:=x) b (by simpa using e);exact⟨c,by simpa using e2,f⟩
theorem Z5.ints (st:Addr) (H:Hp):∀ns:List Int,Z5 st H (ns.map ir) (ns.map V.int)
 | []=>Z5.nil st H
 | n::ns=>Z5.cons (Dt.int st H n) (Z5.ints st H ns)
theorem Z5.ints_eq {st:Addr}{H:Hp}:∀{ns:List Int}{xs:List V},Z5 st H (ns.map ir) xs->xs=ns.map V.int
 | [],_,h=>by unfold Z5 at h;exact h
 | n::ns,_,h=>by rw[t8] at h;obtain⟨x,r,e,a,b⟩:=h.uncons;unfold Dt at a;rw[e,a,Z5.ints_eq b,t8]
abbrev DI (ns:List Int):E7:=.tuple (ns.map .int)
def Dt.di{st:Addr} (h:Dt st H (DI ns) v):∃a,v=.ref a/\a≠st/\H a=some (.tup (ns.map V.int)):=by unfold DI Dt at h;obtain⟨a,b,e,n,q,r⟩:=h;exact⟨a,e,n,by rw[q,r.ints_eq]⟩
def Dt.mkI{st:Addr} (n:a≠st) (h:H a=some (.tup (ns.map V.int))):Dt st H (DI ns) (.ref a):=Dt.tup n h (Z5.ints st H ns)
mutual
theorem Dt.reads {P:j0}{w:w5}{st:Addr}{H:Hp}{h:Heap} (ok:dQ P w H h):∀{d:E7}{v:V}{u:b9},d.canLay0=true->Dt st H d v->K3 v u->∃as,Reads h u d as
 | .none,_,u,_,q,r=>by unfold Dt at q;subst q;cases r;exact⟨[],.none⟩
 | .bool b,_,u,_,q,r=>by unfold Dt at q;subst q;cases r;exact⟨[],.bool b⟩
 | .int i,_,u,_,q,r=>by unfold Dt at q;subst q;obtain⟨t,rfl⟩:=r;exact⟨[],.int i t⟩
 | .str x,_,u,_,q,r=>by unfold Dt at q;subst q;obtain⟨t,rfl⟩:=r;exact⟨[],.str x t⟩
 | .tuple p,_,u,cl,q,r=>by
  unfold cy at cl;unfold Dt at q;obtain⟨a,s,e,n,c,f⟩:=q;subst e;cases r;obtain⟨_,g,j,o,k,y,m,z⟩:=ok a _ c;obtain⟨as,l⟩:=Z5.reads ok cl f j;exact⟨as,.tuple k y z (by simpa using l)⟩
 | .list p,_,u,cl,q,r=>by
  unfold cy at cl;unfold Dt at q;obtain⟨a,s,e,n,c,f⟩:=q;subst e;cases r;obtain⟨_,g,m,j,k⟩:=ok a _ c;obtain⟨as,l⟩:=Z5.reads ok cl f j;exact⟨a::as,.list k rfl rfl (by simpa using l)⟩
 | .dict C,_,u,cl,q,r=>by unfold cy at cl;cases cl
theorem Z5.reads {P:j0}{w:w5}{st:Addr}{H:Hp}{h:Heap} (ok:dQ P w H h):∀{ds:List E7}{xs:List V}{us:List b9},aB ds=true->Z5 st H ds xs->J9 xs us->∃as,ReadsAll h us ds as
 | [],_,us,_,q,r=>by unfold Z5 at q;subst q;cases r;exact⟨[],.nil⟩
 | d::ds,_,us,cl,q,r=>by
  unfold aB at cl;rw[A4] at cl;obtain⟨x,j,e,a,b⟩:=q.uncons;subst e;cases r with
  | cons c f =>
   obtain⟨as,g⟩:=Dt.reads ok cl.1 a c;obtain⟨bs,i⟩:=Z5.reads ok cl.2 b f;exact⟨as++bs,.cons g i⟩
end
def sh(h:ie d=true):d.canLay0=true:=by unfold ie at h;rw[A4] at h;exact h.1
def SI:R2:=λx y H Q=>∃st d e,Dt st H d x/\Dt st H e y/\ie d=true/\ie e=true/\Q (.bl (!PyData.eqv d e)) H
def PP (f:X.A.units+64<fW):nj X (P7 .NotEq) SI:=by intro a s o H x y v u Q I g i h;obtain⟨st,d,e,j,k,b,c,q⟩:=h;obtain⟨as,l⟩:=j.reads I.hok (sh b) g;obtain⟨bs,m⟩:=k.reads I.hok (sh c) i;exact ne_dataH l m b c f (P8 I q rfl)
def Rv:E7->String
 | .none=>"NoneType"
 | .bool _=>"bool"
 | .int _=>"int"
 | .str _=>"str"
 | .list _=>"list"
 | .tuple _=>"tuple"
 | .dict _=>"dict"
def Dt.ty{K:m9}{st:Addr} (h:Dt st H d v):pU K H v (.type (Rv d)):=by
 cases d with
 | none=>unfold Dt at h;subst h;exact .non
 | bool b=>unfold Dt at h;subst h;exact .bl b
 | int i=>unfold Dt at h;subst h;exact .int i
 | str x=>unfold Dt at h;subst h;exact .str x
 | list c=>unfold Dt at h;obtain⟨a,f,e,_,q,_⟩:=h;subst e;exact .lst q
 | tuple c=>unfold Dt at h;obtain⟨a,f,e,_,q,_⟩:=h;subst e;exact .tup q
 | dict g=>unfold Dt at h;obtain⟨a,j,e,_,q⟩:=h;subst e;exact .dK q
def MC:E7->Bool
 | .bool _=>true
 | _=>false
def Qy:E7->Bool
 | .bool _=>true
 | .int _=>true
 | _=>false
def Qx:E7->Bool
 | .tuple _=>true
 | _=>false
def Js (K:m9) (d:E7):dR K (.type (Rv d)) (.type "bool")=some (MC d):=by cases d <;> kernel_rfl
def Mx (K:m9) (d:E7):dR K (.type (Rv d)) (.type "int")=some (Qy d):=by cases d <;> kernel_rfl
def Di (K:m9) (d:E7):dR K (.type (Rv d)) (.type "tuple")=some (Qx d):=by cases d <;> kernel_rfl
def lh{f:E7->Bool} (e:∀K d,dR K (.type (Rv d)) (.type T)=some (f d)):
  cN X (.builtin "isinstance") (λb H Q=>∃x st d,b=[x,.ty T]/\Dt st H d x/\Q (.bl (f d)) H):=by
 intro c s l H b m Q I r h;obtain⟨x,st,d,rfl,g,q⟩:=h;cases r with
 | cons i a =>
  cases a with
  | cons j a =>
   cases a;cases j;exact ET I i (g.ty (K:=X.K)) (e X.K d) λk=>⟨.bl (f d),H,I.tok k,rfl,q⟩
def yO:nj X (fX .FloorDiv) (rI (λ_ j=>0<j/\j.natAbs.log2<9000) λi j=>.int (i / j)):=Ry λi j _ _ _ _ _ a q =>
 floordiv_int (by have:=a.1;lia) (by rw[ye i (by have:=a.1;lia)];exact q) (.inl (PyProof.noPylong_of_log2 a.2))
def om:nj X (fX .Mult) (rI (λi j=>J6 i<=2 ^ 20/\J6 j<=2 ^ 20) λi j=>.int (i*j)):=Ry λ_ _ _ _ _ _ _ a q=>mul_int q (.of_bits a.1 a.2)
section
variable {prog:j0}{w:w5}{A:A3}{E:b9->d9->Prop}{s:d9}
end
section
variable {X:Cx}
end
structure Y1 (P:j0) (w:w5) (K:m9) (mg:Str->Option b9) (base:Heap) (k:Nat) (x:Str) (ps:List Str) (sp:Sp):Prop where
 ex:∃f fd,mg x=some (.ref f)/\aN K (.ref f)=true/\cO K fd ps []/\K6 P w K mg base ee k f fd ps sp
variable {P:j0}{w:w5}{K:m9}{mg:Str->Option b9}{base:Heap}{ps:List Str}{sp:Sp}
def Y1.up(C:Y1 P w K mg base j x ps sp) (h:j<=k):Y1 P w K mg base k x ps sp :=
 let ⟨f,e,a,b,c,d⟩:=C.ex;⟨f,e,a,b,c,d.mono h⟩
def tCb (sp:Sp) (t:TA):TE:=λa H Q=>t a H λb c=>sp b c Q E0
section
variable {p pos:Pos}
def D9 (C:Y1 X.prog X.w X.K X.mg X.base k x ps sp) (g:bD k X.A) (i:Gl X x) (j:PA X (e::es) t)
  (c:(x == ("__debug__":Str))=false:=by decide) (l:B9 (e::es) X.env=(false,eval e X.env)::B9 es X.env:=by rfl) (d:(Z7 pos (B9 es X.env)).any (·.1)=false:=by rfl):
  PE X (.Call (.Name x p) (e::es) [] pos) (tCb sp t):=by
 obtain⟨f,r,m,o,q,F⟩:=C.ex;have h:=CQ (x:=x) (p:=p) (pos:=pos) F g i m o q .nil Iu j c l d;have e:GA sp [] E0 t=tCb sp t:=by funext σ H Q;show t σ H (λa b=>sp (a++[]) b Q E0)=t σ H (λa b=>sp a b Q E0);congr 1;funext a b;rw[P4]
 rw[<- e];exact h
end
def cZ{lo:Int} (h:n<=j6) (Pv:Nat->List V->Hp->Prop) (f:Pv 0 [] H) (g:∀i a H,Pv i a H->a.length=i) (c:σ0[0]?=some none)
  (hs:∀i a H,i<n->Pv i a H->te (σ0.set 0 (some (.int (lo+i)))) H λy H'=>Pv (i+1) (a++[y]) H') (hd:∀a H,Pv n a H->F a H):Cj (Ob lo n) σ0 (V5 0) ag te H F:=by
 refine⟨λi m a H=>m=n - i/\i<=n/\Pv i a H,⟨n,by simp,A6 _,f⟩,?_⟩;rintro i m a d ⟨rfl,j,p⟩;refine⟨by rw[g i a d p];lia,?_⟩;by_cases b:i<n
 .refine .inr ⟨b,λy H'=>Pv (i+1) (a++[y]) H',λ_=>False,λy H' q=>⟨n - (i+1),by lia,rfl,b,q⟩,λ_ q=>q.elim,λx k y=>?_⟩;obtain⟨rfl,rfl⟩:=y;exact⟨Wk.set (.inl c),hs i a _ b p⟩
 .have e:i=n:=by lia
  subst e;exact .inl ⟨i4 _,hd a d p⟩
def jV(l:xs.length<=j6) (Pv:Nat->List V->Hp->Prop) (g:Pv 0 [] H) (h:∀i b H,Pv i b H->b.length=i) (j:∀i b H,i<=xs.length->Pv i b H->jb K H a xs) (d:σ0[0]?=some none)
  (hs:∀i b H x,xs[i]?=some x->Pv i b H->te (σ0.set 0 (some x)) H λy H'=>Pv (i+1) (b++[y]) H') (hd:∀b H,Pv xs.length b H->F b H):Cj (Itt K a) σ0 (V5 0) ag te H F:=by
 refine⟨λi m b H=>m=xs.length - i/\i<=xs.length/\Pv i b H,⟨xs.length,by simp,A6 _,g⟩,?_⟩;rintro i m b f ⟨rfl,k,p⟩;have q:=j i b f k p;refine⟨by rw[h i b f p];lia,?_⟩;by_cases c:i<xs.length
 .refine .inr ⟨⟨xs,xs[i],q,by simp[c]⟩,λy H'=>Pv (i+1) (b++[y]) H',λ_=>False,λy H' q=>⟨xs.length - (i+1),by lia,rfl,c,q⟩,λ_ q=>q.elim,λx o y=>?_⟩;obtain⟨rfl,y⟩:=y;exact⟨Wk.set (.inl d),hs i b _ x (y xs q) p⟩
 .have e:i=xs.length:=by lia
  subst e;exact .inl ⟨⟨xs,q,i4 _⟩,hd b f p⟩
def MW(Q:xs.length<=j6) (t:xs.length=ys.length) (Pv:Nat->List V->Hp->Prop) (C:Pv 0 [] H) (D:∀i c H,Pv i c H->c.length=i)
  (I:∀i c H,i<=xs.length->Pv i c H->jb K H a xs/\jb K H b ys) (d:σ0[0]?=some none/\σ0[1]?=some none)
  (hs:∀i c H x y p,xs[i]?=some x->ys[i]?=some y->H p=none->Pv i c H->te ((σ0.set 0 (some x)).set 1 (some y)) (C3 H p (.tup [x,y])) λz H'=>Pv (i+1) (c++[z]) H') (hd:∀c H,Pv xs.length c H->F c H):
  Cj (Itz K a b) σ0 (EX K 2 (oB (V5 0) (oB (V5 1) JE))) ag te H F:=by
 refine⟨λi m c H=>m=xs.length - i/\i<=xs.length/\Pv i c H,⟨xs.length,by simp,A6 _,C⟩,?_⟩;rintro i m c g ⟨rfl,J,p⟩;obtain⟨h,l⟩:=I i c g J p;refine⟨by rw[D i c g p];lia,?_⟩;by_cases f:i<xs.length
 .refine .inr ⟨⟨xs,ys,xs[i],ys[i]'(by lia),h,l,by simp[f],by rw[j4 (by lia)]⟩,λy H'=>Pv (i+1) (c++[y]) H',λ_=>False,λy H' q=>⟨xs.length - (i+1),by lia,rfl,f,q⟩,λ_ q=>q.elim,λv R k=>?_⟩;obtain⟨r,x,y,L,rfl,rfl,N,O⟩:=k;refine⟨r,[x,y],rfl,.of j3,rfl,x,[y],rfl,y,[],rfl,rfl,?_,?_⟩
  .refine⟨by simp,λj u e=>?_⟩;by_cases o:j=1
   .subst o;rw[d.2] at e;cases e
   .rw[P1 (G2 o)];by_cases s:j=0
    .subst s;rw[d.1] at e;cases e
    .rw[P1 (G2 s)];exact e
  .exact hs i c _ x y r (N xs h) (O ys l) L p
 .have e:i=xs.length:=by lia
  subst e;exact .inl ⟨⟨xs,h,i4 _⟩,hd c g p⟩
section
variable {X:Cx}
def pJ{pos:Pos} (a:Gl X x) (b:X.mg x=none) (c:aV x=some (.type T)) (d:x≠"__name__":=by decide) (hd:(x == ("__debug__":Str))=false:=by decide):PE X (.Name x pos) (tC (.ty T)):=LU a b c (v:=.ty T) rfl d hd
def dq(a:N.Nodup) (b:N[i]?=some x) (c:TY (X.comp scope N s H ex).env.scope x)
  (d:(X.comp scope N s H ex).fn x=true ∨ (X.comp scope N s H ex).env.scope.names.lookup x=some .local):PG (X.comp scope N s H ex) (.Name x pos) (V5 i):=U6 a b c d
end
def sz (h:n<=1000):n<=j6:=aJ (jq h)
def lenK (h:X.K=K):cN X (.builtin "len") (λb H Q=>∃p a,b=[.ref p]/\(jc K H p a ∨ jb K H p a)/\Q (.int a.length) H):=by subst h;exact R1
def Sf (h:X.K=K):cN X (.type "tuple") (λb H Q=>∃p a,b=[.ref p]/\((jc K H p a/\∀l,H l=none->Q (.ref l) (C3 H l (.tup a))) ∨ (jb K H p a/\Q (.ref p) H))):=by subst h;exact Q3
def ixK (h:X.K=K):RG X (SK K):=by subst h;exact bW
def ixLK (h:X.K=K):RG X (SL K):=by subst h;exact U8
def LO(h:X.K=K) {k:Nat}{pos:Pos} (b:X.calm=true) (c:TV X es t)
  (d:(fq es X.env).length=n:=by rfl) (a:(fq es X.env).findIdx? (·.1)=none:=by rfl):PG X (.Tuple es k pos) (EX K n t):=by subst h;exact sG b c d a
def Hd (h:Heap) (a C:Addr):Option Addr->Prop
 | none=>∃b c,h.get? a=some b/\b.cls=.ref C/\b.dict=none/\b.data=.fields c/\c[1]?=some .none
 | some T=>∃b c d e,h.get? a=some b/\b.cls=.ref C/\b.dict=none/\b.data=.fields c/\c[1]?=some (.ref T)/\T≠a/\h.get? T=some d/\d.data=.fields e/\e[3]?=some .none
variable {h:Heap}{C:Addr}
def Hd.at{x:Option Addr} (q:Hd h a C x):∃b c,h.get? a=some b/\b.cls=.ref C/\b.dict=none/\b.data=.fields c:=by
 cases x with
 | none=>obtain⟨b,c,e1,e2,e3,e4,_⟩:=q;exact⟨b,c,e1,e2,e3,e4⟩
 | some T=>obtain⟨b,c,_,_,e1,e2,e3,e4,_⟩:=q;exact⟨b,c,e1,e2,e3,e4⟩
def kY (f:Array b9->Array b9) (o:Obj):(J4 f o).dict=o.dict:=by obtain⟨c,d,a,sl⟩:=o;cases a <;> rfl
variable {out:List Env}
def Dp{s:d9}{V:Bool}
  (fr:A.frames=some (ev::out)) (R:s.heap.FunFrames bs (ev::out)) (Y:ev.frame=some L) (S:s.heap.get? a=some ob) (Z:ob.cls=.ref C) (gd:ob.dict=none) (z:ob.data=.fields us) (sz:1<us.size)
  (k:∀u T,Hd u a C (some T)->s.heap.objs.size<=T->(∀b o,b≠a->b ∉ fR (ev::out)->s.heap.get? b=some o->u.get? b=some o) ->
   (∀b o,b≠a->s.heap.get? b=some o->∃sl,u.get? b=some { o with slots:=sl })->Q () { s with heap:=u }):
  j8 M A (do let x <- frameOf ev;let v <- entryPlaceOf L V;let b <- fH j x .none (N6 L) .none v;iO (.ref a) 1 b) (λ_ s'=>j8 M A (mB (.ref a) none) Q E s') E s:=by
 have na:a ∉ (ev::out).filterMap (·.frame):=λhm=>by obtain⟨_,o,U,D⟩:=R.mem hm;rw[S] at U;cases U;exact D us z
 refine b7 (Uh fr R Y λc y=>?_);refine b7 (RJ λv I=>?_);unfold fH UN;refine b7 (E4 ?_ (I.sizeOk5 _ _ _ _ _));have l:c.get? a=some ob:=(y.2.1 a na).trans S;generalize i:({ cls:=.type "traceback",dict:=none,data:=.fields ([j,.ref L,.none,N6 L,.none]++(if v.isEmpty then cG 6 B4 else v)).toArray }:Obj)=g;have m:(c.push g).get? a=some ob:=f6 (h:=c) g l;have J:(c.push g).get? c.objs.size=some g:=j7 c (by rw[<- i];rfl);have d:∃N,g.data=.fields N/\3<N.size:=by refine⟨_,by rw[<- i],?_⟩;simp only[A2,y9,n5,aF];lia
 obtain⟨N,d,p⟩:=d;refine S7 m z sz ?_;have neT:c.objs.size≠a:=D2 (i5 l);have d3:=M3 z (·.setIfInBounds 1 (r6 c.objs.size));have q:=K2 (J4 (·.setIfInBounds 1 (r6 c.objs.size))) m (V9 d3);have r:((c.push g).update a (J4 (·.setIfInBounds 1 (r6 c.objs.size)))).get? c.objs.size=some g :=
  (E2 (c.push g) (J4 (·.setIfInBounds 1 (r6 c.objs.size))) (G2 neT)).trans J
 unfold mB;refine b7 (D5 q d3 (x:=.ref c.objs.size) (by simp[sz]) ?_);rw[ZB (show (r6 c.objs.size != B4)=true from by simp)];refine S7 r d p ?_;have kp:∀b o,b≠a->c.get? b=some o ->
   (((c.push g).update a (J4 (·.setIfInBounds 1 (r6 c.objs.size)))).update c.objs.size (J4 (·.setIfInBounds 3 ((none:Option Addr).elim B4 λf=>N6 f)))).get? b=some o:=by
  intro b o t e;have O:c.objs.size≠b:=D2 (i5 e);rw[E2 _ _ O,E2 _ _ (G2 t)];exact f6 _ e
 refine k _ c.objs.size ⟨_,_,_,_,(E2 _ _ neT).trans q,?_,?_,d3,by simp[sz],neT,K2 _ r (V9 (M3 d _)),M3 d _,?_⟩ (by rw[y.1];exact i4 _) (λb o t hf e=>?_) (λb o t e=>?_)
 .rw[jZ];exact Z
 .rw[kY];exact gd
 .rw[cq p];rfl
 .exact kp b o t ((y.2.1 b hf).trans e)
 .obtain⟨sl,e1⟩:=y.2.2 b o e;exact⟨sl,kp b _ t e1⟩
def IU{s:d9}
  (fr:A.frames=some (ev::out)) (I:s.heap.FunFrames bs (ev::out)) (j:ev.frame=some L) (x:Hd s.heap a C hd)
  (k:∀d T,Hd d a C (some T)->s.heap.objs.size<=T->(∀b o,b≠a->hd≠some b->b ∉ fR (ev::out)->s.heap.get? b=some o->d.get? b=some o) ->
   (∀b o,b≠a->hd≠some b->s.heap.get? b=some o->∃sl,d.get? b=some { o with slots:=sl })->Q () { s with heap:=d }):
  j8 M A (fC (.ref a) ev) (λ_ N=>j8 M A (mB (.ref a) none) Q E N) E s:=by
 unfold fC;simp only[j];cases hd with
 | none =>
  obtain⟨O,l,e1,e2,e3,e4,e5⟩:=x;refine b7 (D5 e1 e4 e5 ?_);rw[ZC (by decide)];exact Dp fr I j e1 e2 e3 e4 (ZU.mp e5).1 λd T m p r t=>k d T m p (λb o c _=>r b o c) (λb o c _=>t b o c)
 | some g =>
  obtain⟨O,l,V,R,e1,e2,e3,e4,e5,ne,u,v,J⟩:=x;refine b7 (D5 e1 e4 e5 ?_);rw[ZB (show (r6 g != B4)=true from by simp)];refine b7 (D5 u v J ?_);rw[ZC (show ¬ ((B4 == N6 L)=true) from by simp[N6])];refine b7 (S7 u v (ZU.mp J).1 ?_);have i:∀b,b≠g->(s.heap.update g (J4 (·.setIfInBounds 3 B4))).get? b=s.heap.get? b:=λb c=>E2 _ _ (G2 c);have S:∀b o,s.heap.get? b=some o->(∀l,o.data≠.fields l)->b≠g:=λb o c f q=>by rw[q,u] at c;cases c;exact f R v
  refine Dp fr (I.of_keeps λb o c f=>⟨o,(i b (S b o c f)).trans c,rfl⟩) j ((i a (G2 ne)).trans e1) e2 e3 e4 (ZU.mp e5).1 λd T m p r t=>?_;have y:s.heap.objs.size<=T:=by have z:=lI s.heap g (J4 (·.setIfInBounds 3 B4));rw[<- z];exact p
  exact k d T m y (λb o c D U e=>r b o c U ((i b λz=>D (by rw[z])).trans e)) (λb o c D e=>t b o c ((i b λz=>D (by rw[z])).trans e))
def Mr{s:d9}
  (fr:A.frames=some (ev::out)) (d:s.heap.FunFrames bs (ev::out)) (e:ev.frame=some L) (x:Hd s.heap a C hd)
  (k:∀c T,Hd c a C (some T)->s.heap.objs.size<=T->(∀b o,b≠a->hd≠some b->b ∉ fR (ev::out)->s.heap.get? b=some o->c.get? b=some o) ->
   (∀b o,b≠a->hd≠some b->s.heap.get? b=some o->∃sl,c.get? b=some { o with slots:=sl })->Q () { s with heap:=c }):
  j8 M A (qY ev (.ref a)) Q E s:=by
 unfold qY;exact b7 (IU fr d e x k)
def O4.there(x:O4 P w H h a o):∃u,h.get? a=some u:=by
 cases o with
 | lst c=>obtain⟨_,_,_,_,e⟩:=x;exact⟨_,e⟩
 | tup c=>obtain⟨_,_,_,ob,e,_⟩:=x;exact⟨_,e⟩
 | dK b=>obtain⟨_,_,_,_,ob,_,_,e,_⟩:=x;exact⟨_,e⟩
 | dT b=>obtain⟨_,_,_,_,ob,_,_,e,_⟩:=x;exact⟨_,e⟩
 | set S n=>obtain⟨ob,_,_,_,e,_⟩:=x;exact⟨_,e⟩
 | ins C d fs=>obtain⟨_,_,_,e,_⟩:=x;exact⟨_,e⟩
 | own y=>exact x
 | xd fs=>obtain⟨_,⟨_,_,_,e,_⟩,_⟩:=x;exact⟨_,e⟩
 | rng lo g=>obtain⟨_,_,_,e⟩:=x;exact⟨_,e⟩
 | frz ob u=>obtain⟨e,_⟩:=x;exact⟨_,e⟩
 | tbl ps=>exact⟨_,(show h.get? a=some _ from x)⟩
 | met f y=>exact⟨_,(show h.get? a=some _ from x)⟩
 | ext i=>obtain⟨_,e,_⟩:=x;exact e
def dQ.none_of(x:dQ P w H h) (e:h.get? a=none):H a=none:=by
 cases z:H a with
 | none=>rfl
 | some u =>
  obtain⟨o,b⟩:=(x a u z).there;rw[e] at b;cases b
structure KC (P:j0) (w:w5) (fs:List Addr) (H:Hp) (s:d9) (a C:Addr) (H':Hp) (s':d9):Prop where
 os:s'.os=s.os
 bare:lJ s'.gens
 un:Un fs [] H H' s.heap s'.heap
 hok:dQ P w H' s'.heap
 exc:∃T,Hd s'.heap a C (some T)/\s.heap.get? a=none/\s.heap.get? T=none/\H' a=none/\H' T=none
def fO (P:j0) (w:w5):DJ:=λb H s E e c=>∃a C H',e=.ref a/\KC P w (fR b) H s a C H' c/\E (.ref C) none H'
def Oy{fs:List Addr}(j:H a=none) (k:∀T,hd=some T->H T=none) (l:∀b∈fs,H b=none)
  (k1:∀b o,b≠a->hd≠some b->b ∉ fs->h.get? b=some o->h'.get? b=some o) (ok:dQ P w H h):dQ P w H h':=λb o e=>by
 have i:∀c u,H c=some u->c≠a/\hd≠some c/\c ∉ fs:=λc u q=>by
  refine⟨λz=>?_,λz=>?_,λz=>?_⟩
  .rw[z,j] at q;cases q
  .rw[k c z] at q;cases q
  .rw[l c z] at q;cases q
 refine (ok b o e).stay (λc u m q=>?_) (λ_ q=>q) λ_ _ q=>q;obtain z|z:=m
 .subst z;obtain⟨d,f,g⟩:=i _ _ e;exact k1 _ u d f g q
 .obtain⟨d,f,g⟩:=i _ _ z;exact k1 _ u d f g q
variable {pins:List (Addr × Obj)}{σ:St}
def xp(I:D1 X pins σ H s) (hs:X.stack=X.env::X.outer) (r:X.env.frame=some X.env.locals) (l:X.ex=[])
  (x:Hd s.heap a C hd) (t:X.s₀.heap.get? a=none) (nT:∀T,hd=some T->X.s₀.heap.get? T=none) (u:H a=none) (y:∀T,hd=some T->H T=none)
  (q:∀v,KC X.prog X.w X.fs X.H₀ X.s₀ a C H v->Q () v):j8 M X.A (qY X.env (.ref a)) Q E s:=by
 have fr:X.A.frames=some (X.env::X.outer):=by rw[I.ok.frames,hs]
 have D:s.heap.FunFrames X.base (X.env::X.outer):=by rw[<- hs];exact I.stack
 have m:fR (X.env::X.outer)=X.env.locals::X.fs:=by unfold fR;rw[Y8,r];rfl
 refine Mr fr D r x λh' T J g k1 k2=>q _ ?_;have c:∀b,b ∉ X.ex:=λb z=>by rw[l] at z;cases z
 have d:∀b o,X.s₀.heap.get? b=some o->b≠a/\hd≠some b/\b≠X.env.locals:=λb o e=>by
  refine⟨λz=>?_,λz=>?_,y7 (B5 (i5 e) I.ok.above)⟩
  .rw[z,t] at e;cases e
  .rw[nT b z] at e;cases e
 refine⟨I.os,I.bare,⟨λb o e n f _=>?_,λb o e n f _=>?_,λb o e n _=>I.base.free b o e n (c b),λb o e _=>?_,I.base.tups,I.base.frzs,I.base.tbls⟩,Oy (fs:=fR (X.env::X.outer)) u y (λb f=>I.stkFree b (by rw[hs];exact f)) k1 I.hok,T,J,t,?_,u,I.hok.fresh g⟩
 .obtain⟨i,j,p⟩:=d b o e;exact k1 b o i j (by rw[m];intro z;obtain z|z:=C7.mp z;exact p z;exact f z) (I.base.keep b o e n f (c b))
 .obtain⟨i,j,p⟩:=d b o e;obtain⟨sl,e1⟩:=I.base.slot b o e n f (c b);obtain⟨k,e2⟩:=k2 b _ i j e1;exact⟨k,e2⟩
 .obtain⟨i,j,p⟩:=d b o e;obtain⟨N,e1⟩:=I.base.there b o e (c b);obtain⟨k,e2⟩:=k2 b _ i j e1;exact⟨_,e2⟩
 .exact cH (j9 I.sz g)
variable {b:Addr}
def gE(u:Un fs [] H H' h h') (e:h'.get? b=none):h.get? b=none:=by
 cases q:h.get? b with
 | none=>rfl
 | some o =>
  obtain⟨c,a⟩:=u.there b o q (by simp);rw[a] at e;cases e
def U7:fN (fO P w) (gw (fO P w) P w K mg base N qual scope f cd A outer s₀ H₀ E) E:=by intro pins σ H s e p I h;obtain⟨a,C,H',rfl,F,c⟩:=h;obtain⟨T,x,d,g,i,j⟩:=F.exc;have k:=I.call' (ch:=[]) F.os F.un F.hok F.bare (λb z=>Zy z (by simp));exact xp k rfl rfl rfl x (gE I.base d) (λl z=>by cases z;exact gE I.base g) i (λl z=>by cases z;exact j) λm o=>⟨a,C,H',rfl,o,c⟩
def vE:List b9:=[.type "ValueError",.type "Exception",.type "BaseException",.type "object"]
def XC (K:m9) (C:Addr):Prop:=Rj K C vE "ValueError.__new__"=true
def MK(X:K.In h) (q:XC K C):
  ∃i N k q bs e m sub o c dd j k1 k2 k3 k5 r,h.get? C=some (excClassObj k q C N bs i e m sub o c dd j k1 k2 k3 k5 "ValueError.__new__")/\h.Ns N r/\r "__init__"=none/\OwnTail h vE i:=by
 unfold XC Rj at q;split at q
 case h_2=>cases q
 case h_1 dd cd sl ho =>
  split at q
  case h_2=>cases q
  case h_1 C' i j k1 k2 k3 n k5 hm hs =>
   simp only[A4,Zs,aH] at q;obtain⟨⟨⟨⟨⟨z1,z2⟩,a⟩,s⟩,d⟩,g⟩:=q;subst z1;subst z2;obtain⟨k,bs,mro,ns,t,hd,m,sub,o,c,u⟩:=cd;dsimp only at hm a d g;subst hm a;have p:sl=#[j,k1,k2,k3,some (.builtin "ValueError.__new__"),k5]:=by obtain⟨l⟩:=sl;simp only at hs;rw[hs]
   subst p;exact⟨i,ns,k,t,bs,hd,m,sub,o,c,dd,j,k1,k2,k3,k5,_,X _ _ ho,.of_isNs (W.isNs_of_in X d),W.nsMap_none_of_in X d g,W.tail_of_in X s⟩
def OG (C:Addr) (E:XK) (t:TA):TS:=λ_ σ H=>t σ H λ_ a=>E (.ref C) none a
def HZ{np cpos pos:Pos} (J:Gl (gw (fO P w) P w K mg base N qual scope f cd A outer s₀ H₀ E) x) (O:mg x=some (.ref C)) (R:XC K C)
  (i:PA (gw (fO P w) P w K mg base N qual scope f cd A outer s₀ H₀ E) (e::es) t) (hl:(e::es).length<=1:=by decide)
  (j:(x == ("__debug__":Str))=false:=by decide)
  (v:B9 (e::es) (bo qual scope s₀.heap.objs.size f cd)=(false,eval e (bo qual scope s₀.heap.objs.size f cd))::B9 es (bo qual scope s₀.heap.objs.size f cd):=by rfl)
  (k:(Z7 cpos (B9 es (bo qual scope s₀.heap.objs.size f cd))).any (·.1)=false:=by rfl)
  (l:∀σ H Q,t σ H Q->t σ H λm S=>m.length<=j6/\Q m S):
  PS (gw (fO P w) P w K mg base N qual scope f cd A outer s₀ H₀ E) (.Raise (some (.Call (.Name x np) (e::es) [] cpos)) none pos) (OG C E t):=by
 intro pins s σ H D I h;obtain⟨U,V,Y,q,bs,d,Z,sub,ab,o,dd,k0,k1,k2,k3,k5,mN,hC,hN,p,T⟩:=MK I.ok.mod.kin R;have FB:=PySem.F.excBase_ValueError;refine wpAny_Raise_call_subT (C:=C) (nm:=Y) (q:=q) (N:=V) (bs:=bs) (bm:=U) (hdct:=d) (sn:=Z) (sub:=sub) (ab:=ab) (col:=o) (dd:=dd) (k0:=k0) (k1:=k1) (k2:=k2) (k3:=k3) (k5:=k5)
  FB (mN:=mN) (T.hasType FB.hasBase) (I.ok.hd rfl) ?_ p (lP I J O ⟨rfl,?_⟩ j)
 .show (Z7 cpos (B9 (e::es) (bo qual scope s₀.heap.objs.size f cd))).any (·.1)=false;rw[v];show (false || (Z7 cpos (B9 es (bo qual scope s₀.heap.objs.size f cd))).any (·.1))=false;rw[k];rfl
 .have hq:=i cpos pins s σ H _ I (l _ _ _ h);show j8 _ _ (evalArgs (.ref C) true (Z7 cpos (B9 (e::es) (bo qual scope s₀.heap.objs.size f cd))) []) _ _ s;have g:j8 (n6 P w) (A.deeper (bo qual scope s₀.heap.objs.size f cd)) (spliced (Z7 cpos (B9 (e::es) (bo qual scope s₀.heap.objs.size f cd)))) _ _ s:=hq;rw[v] at g ⊢;refine gh (C4 g (λus s2 ⟨m,u,c,r,lv,hE⟩=>⟨rfl,?_,c.bk _ _ hC,hN.keeps c.bk,T.keeps c.bk,λh' a mk=>?_⟩) λ_ _ y=>y)
  .show us.length<=j6;rw[<- r.length];exact lv
  .obtain⟨t,ea,tn,et⟩:=mk.there;have i:u a=none:=c.hok.none_of mk.new;have I3:D1 (gw (fO P w) P w K mg base N qual scope f cd A outer s₀ H₀ E) pins σ u { s2 with heap:=h' }:=c.kept mk.keeps;exact xp (hd:=none) I3 rfl rfl rfl ⟨_,_,ea,rfl,rfl,rfl,rfl⟩ (gE c.base mk.new) (λT' z=>by cases z) i (λT' z=>by cases z) λa0 F'=>⟨a,C,u,rfl,F',hE⟩
abbrev KN (o:Obj):HO:=.frz o (.ext λ_=>True)
def vB(e:h.get? a=some o):O4 P w H h a (KN o):=⟨e,trivial,⟨o,e⟩,λ_ _ _ _=>trivial⟩
def dQ.kn(x:dQ P w H h) (e:H a=some (KN o)):h.get? a=some o:=(x a _ e).1
def dQ.know(x:dQ P w H h) (n:H a=none) (e:h.get? a=some o):dQ P w (C3 H a (KN o)) h:=λb u q=>by
 by_cases d:b=a
 .subst d;rw[j3] at q;cases q;exact vB e
 .rw[t9 d] at q;exact(x b u q).stay (λ_ _ _ z=>z) (λc z=>by rw[t9 (A5 z n)];exact z) λc f z=>by rw[t9 (A5 z n)];exact z
def Un.know(u:Un fs ex H H' h h') (n:H' a=none) (d:h.get? a=none):Un fs ex H (C3 H' a o) h h' where
 keep:=u.keep
 slot:=u.slot
 free:=λb ob q m f=>by rw[t9 (λz=>by rw[z,d] at q;cases q)];exact u.free b ob q m f
 there:=u.there
 tups:=λb c q=>by rw[t9 (A5 (u.tups b c q) n)];exact u.tups b c q
 frzs:=λb ob c q=>by rw[t9 (A5 (u.frzs b ob c q) n)];exact u.frzs b ob c q
 tbls:=λb ps q=>by obtain⟨m,e⟩:=u.tbls b ps q;exact⟨m,by rw[t9 (A5 e n)];exact e⟩
def KC.noteW(F:KC P w (fR (ev::out)) H s a C H' s') (fr:A.frames=some (ev::out)) (r:s'.heap.FunFrames bs (ev::out)) (t:ev.frame=some L) (k:∀b∈fR (ev::out),H' b=none)
  (q:∀d,KC P w (fR (ev::out)) H s a C H' d->Q () d):j8 M A (fC (.ref a) ev) (λ_ u=>j8 M A (mB (.ref a) none) Q E u) E s':=by
 obtain⟨l,x,m,v,p,y⟩:=F.exc;refine IU fr r t x λh' T D f k1 k2=>q _ ?_;have c:∀b o,s.heap.get? b=some o->b≠a/\some l≠some b:=λb o e=>by
  refine⟨λz=>?_,λz=>?_⟩
  .rw[z,m] at e;cases e
  .have I:=E8 z;rw[<- I,v] at e;cases e
 refine⟨F.os,F.bare,⟨λb o e n j g=>?_,λb o e n j g=>?_,F.un.free,λb o e g=>?_,F.un.tups,F.un.frzs,F.un.tbls⟩,Oy (hd:=some l) p (λJ z=>by cases z;exact y) k k1 F.hok,T,D,m,?_,p,F.hok.fresh f⟩
 .obtain⟨m1,m2⟩:=c b o e;exact k1 b o m1 m2 j (F.un.keep b o e n j g)
 .obtain⟨m1,m2⟩:=c b o e;obtain⟨sl,e1⟩:=F.un.slot b o e n j g;obtain⟨i,e2⟩:=k2 b _ m1 m2 e1;exact⟨i,e2⟩
 .obtain⟨m1,m2⟩:=c b o e;obtain⟨N,e1⟩:=F.un.there b o e g;obtain⟨i,e2⟩:=k2 b _ m1 m2 e1;exact⟨_,e2⟩
 .exact gE F.un (cH f)
def KC.landW (F:KC P w fs H s a C H' s') (i:∀b∈fs,H' b=none) (q:∀d,KC P w fs H s a C H' d->Q () d):j8 M A (mB (.ref a) none) Q E s':=by
 obtain⟨T,⟨t,u,D,I,e1,e2,e3,e4,e5,ne,k,j,l⟩,v,m,p,r⟩:=F.exc;refine wpAny_setFlight_none e1 e4 e5 k j (ZU.mp l).1 (q _ ?_);have f:∀b,b≠T->(s'.heap.update T (J4 (·.setIfInBounds 3 B4))).get? b=s'.heap.get? b:=λb c=>E2 _ _ (G2 c);have nT:∀b o,s.heap.get? b=some o->b≠T:=λb o e z=>by rw[z,m] at e;cases e
 refine⟨F.os,F.bare,⟨λb o e n c g=>(f b (nT b o e)).trans (F.un.keep b o e n c g),λb o e n c g=>?_,F.un.free,λb o e g=>?_,F.un.tups,F.un.frzs,F.un.tbls⟩,?_,T,?_,v,m,p,r⟩
 .obtain⟨sl,z⟩:=F.un.slot b o e n c g;exact⟨sl,(f b (nT b o e)).trans z⟩
 .obtain⟨y,z⟩:=F.un.there b o e g;exact⟨y,(f b (nT b o e)).trans z⟩
 .exact Oy (fs:=fs) (hd:=some T) p (λJ z=>by cases z;exact r) i (λb o _ c _ e=>(f b λz=>c (by rw[z])).trans e) F.hok
 .exact⟨t,u,_,_,(f a (G2 ne)).trans e1,e2,e3,e4,e5,ne,K2 _ k (V9 (M3 j _)),M3 j _,by rw[cq (ZU.mp l).1]⟩
def EZ{Q:Bool->d9->Prop} (X:K.In s.heap) (c:s.heap.get? a=some oe) (d:oe.cls=.ref C)
  (e:Ao K (.ref C) (.ref D)=some true) (f:pZ K (.ref D) (.type "BaseException")=some true) (q:Q true s):j8 M A (excMatches (.ref a) (.ref D)) Q E s:=by
 obtain⟨l1,l2,l3⟩:=W.kit_cls (M:=M) X e;have l4:=W.looks_subIn (M:=M) X f;have l5:Rk M s.heap (typeOf (.ref a)) (.ref C):=d ▸ (W.Looks.ld c).andThen .now;have l6:Rk M s.heap (isInstance (.ref D) (.type "tuple")) false:=l1.andThen (W.Looks.of_pure tc_notTuple);have l7:Rk M s.heap (isExcClass (.ref D)) true:=l2.andThen (by simpa using l4);unfold excMatches;refine b7 (l6.here ?_);simp only[F8,Zq];refine b7 (f9 ?_);simp only[bP,fe];refine b7 (b7 (b7 (l7.here ?_)));simp only[ke,F8,Zq];refine f9 (f9 (b7 (l5.here (b7 (b7 (b7 (l3.here ?_)))))));simp only[if_true];exact f9 (f9 (f9 q))
abbrev Cx.marked (X:Cx) (v:b9):Cx:={ X with A:=X.A.mark (some v),calm:=false,xe:=λ_ _=>False }
theorem D1.marked(I:D1 X pins σ H s) (v:b9):D1 (X.marked v) pins σ H s :=
 ⟨⟨I.ok.mod,I.ok.kind,I.ok.glob,I.ok.blt,I.ok.above,I.ok.inj,I.ok.has,I.ok.cab,(λz=>Zy z (by simp)),I.ok.frames,I.ok.stk,I.ok.exf,I.ok.bs,I.ok.bsz,I.ok.noex,I.ok.exfs,I.ok.funs,I.ok.frf⟩,
  I.os,I.bare,I.base,I.loc,I.cell,I.free,I.freeC,I.pin,I.hok,I.len⟩
def D1.unmarked(ok:X.Ok) (I:D1 (X.marked v) pins σ H s):D1 X pins σ H s :=
 ⟨ok,I.os,I.bare,I.base,I.loc,I.cell,I.free,I.freeC,I.pin,I.hok,I.len⟩
variable {pos:Pos}
def Ed{n:Str}(I:D1 X pins σ H s) (U:X.N.Nodup) (J:X.N[i]?=some n) (l:X.env.scope.names.lookup n=some .local)
  (q:∀Y,D1 X pins (σ.set i none) H Y->Q () Y):j8 M A (do DS X.env n .none;Oh X.env n pos) Q E s:=by
 refine b7 (DM (jn I U J (.inl l) (v:=.non) rfl (λs1 a=>?_) (.inr l)));unfold Oh;refine ue ?_;obtain⟨m,Z,r⟩:=id a.loc;have t:(X.env.scope.kind == .class || (X.env.scope.kind == .module&&X.env.locals != X.env.globals))=false:=by rw[I.ok.kind];rfl
 have f:i<σ.length:=by rw[I.len];exact(ZW.mp J).1
 obtain⟨u0,_,lk0⟩:=r i n .non J (bG f) (.inl l);have hv:m n=some u0:=by
  obtain⟨_,z⟩|⟨z,_⟩:=lk0
  .exact z
  .have v:X.env.scope.names.lookup n=some .cell ∨ X.env.scope.names.lookup n=some .free:=z;rw[l] at v;rcases v with v|v <;> cases v
 have cne:=a.cne;obtain⟨oL,_,_,a0,_⟩:=id Z;refine wpAny_unbindName_local (show X.env.kindOf n=some .local from l) Z hv t λh' u R g=>q _ ?_;have neL:∀b o,X.s₀.heap.get? b=some o->b≠X.env.locals:=λb o e=>y7 (B5 (i5 e) I.ok.above);refine⟨I.ok,a.os,a.bare,⟨λb o e n S D=>(g.2 b (neL b o e)).trans (a.base.keep b o e n S D),λb o e n S D=>?_,a.base.free,λb o e D=>?_,a.base.tups,a.base.frzs,a.base.tbls⟩,⟨_,R,λj y v' e1 e2 e3=>?_⟩,λy c e=>?_,a.free,a.freeC,λp hp=>?_,λb ob e=>?_,by simpa using I.len⟩
 .obtain⟨sl,z⟩:=a.base.slot b o e n S D;exact⟨sl,(g.2 b (neL b o e)).trans z⟩
 .obtain⟨o',z⟩:=a.base.there b o e D;exact⟨o',(g.2 b (neL b o e)).trans z⟩
 .by_cases N:j=i
  .subst N;rw[bG f] at e2;cases e2
  .rw[P1 (G2 N)] at e2;have T:(σ.set i (some V.non))[j]?=some (some v'):=by rw[P1 (G2 N)];exact e2
   obtain⟨u',r',z⟩:=r j y v' e1 T e3;refine⟨u',r',?_⟩;obtain⟨k,e⟩|⟨k,c,e,z⟩:=z
   .refine .inl ⟨k,?_⟩;have ny:y≠n:=λe=>N (sM U e1 (e ▸ J));simp[ny,e]
   .exact .inr ⟨k,c,e,z.sameBut g (cne y c e)⟩
 .obtain⟨w',z⟩:=a.cell y c e;exact⟨w',z.sameBut g (cne y c e)⟩
 .obtain⟨e,n,ne,nf,d⟩:=a.pin p hp;exact⟨(g.2 p.1 ne).trans e,n,ne,nf,d⟩
 .refine (a.hok b ob e).stay (λc w' O z=>(g.2 c ?_).trans z) (λ_ z=>z) λ_ _ z=>z;rintro rfl;have fr:=a.free;obtain rfl|O:=O
  .rw[fr] at e;cases e
  .rw[fr] at O;cases O
def Re (X:Cx) (k:Nat) (c:Addr) (sp:Sp) (H:Hp):Prop :=
 ∃d a,H c=some (KN d)/\d.data=.func a/\mC a ⟨[],[]⟩=pure []/\K6 X.prog X.w X.K X.mg X.base (fO X.prog X.w) k c a [] sp
def uc (oe:Obj) (C:Addr):Prop:=oe.cls=.ref C/\oe.dict=none/\∃a,oe.data=.fields a
def tTry (X:Cx) (k iC iE iR:Nat) (B:Addr):TS:=λD σ H=>∃e sp,σ[iC]?=some (some (.ref e))/\Re X k e sp H /\
 sp [] H (λ_ d=>D.nx σ d) (λc _ d=>∃C,c=.ref C/\Ao X.K (.ref C) (.ref B)=some true/\∀a oe,uc oe C->d a=none->D.nx ((σ.set iR (some (.ref a))).set iE none) (C3 d a (KN oe)))
def LK{m Y n o:Str}{B:Addr}{p1 p2 p3 p4 Z p6 p7 p8 p9:Pos} (hs:X.stack=X.env::X.outer) (a0:X.env.frame=some X.env.locals) (hr:bD k X.A) (hN:X.N.Nodup)
  (hC:X.N[iC]?=some m) (a1:TN X.env.scope m) (hE:X.N[iE]?=some n) (i:X.env.scope.names.lookup n=some .local) (hR:X.N[iR]?=some o) (y:X.env.scope.names.lookup o=some .local) (ax:iE≠iR)
  (hg:Gl X Y) (hm:X.mg Y=some (.ref B)) (hB:pZ X.K (.ref B) (.type "BaseException")=some true)
  (d1:(m == ("__debug__":Str))=false:=by decide) (d2:(m == ("__classdict__":Str))=false:=by decide) (d3:(Y == ("__debug__":Str))=false:=by decide) (d4:(n == ("__debug__":Str))=false:=by decide) (d5:(n == ("__classdict__":Str))=false:=by decide)
  (w1:mz (.Call (.Name m p1) [] [] p2) none p3.line X.env=pure false:=by rfl) (w2:mz (.Name n p6) (some (.Name o Z)) p7.line X.env=pure false:=by rfl)
  (w3:FT [.Name o Z] (.Name n p6) X.env=pure none:=by rfl):
  PS X (.Try [.Expr (.Call (.Name m p1) [] [] p2) p3] [.ExceptHandler (some (.Name Y p4)) (some n) [.Assign [.Name o Z] (.Name n p6) p7] p8] [] [] p9) (tTry X k iC iE iR B):=by
 intro pins s σ H D I h;obtain⟨fa,sp,e0,⟨fo,fd,kn,J,a2,F⟩,a3⟩:=h;refine wpAny_Try_except (xW (wpAny_Expr_any (cm ?_) I.quiet w1));have hv:=Bl (X:=X.nox) (i:=iC) (x:=m) (pos:=p1) hC a1 d1 d2 pins s σ H (λv p=>v=.ref fa/\p=H) (I.wish _) ⟨_,e0,rfl,rfl⟩;refine C4 hv (λu N ⟨v,p,I1,r,ev,eH⟩=>?_) λ_ _ z=>G3 z;subst ev;subst eH;obtain rfl:u=r6 fa:=r;have t:D1 X pins σ p N:=I1.unwish;have a4:W.FnAt fa N.heap:=by have z:=t.hok.kn kn;obtain⟨c,d,dt,sl⟩:=fo;dsimp only at J;subst J;exact⟨c,d,fd,sl,z⟩
 refine W.callWith_F0 a4 (nJ (dz (F.run X.A X.stack N p ⟨[],[]⟩ [] [] _ _ hr t.env0 (.of_eq a2) .nil a3) λa5 s' O=>?_));cases a5 with
 | ok fl =>
  cases fl with
  | ret u =>
   obtain⟨v,H',I3,rv,q3⟩:=t.after O;exact eW (eW ⟨σ,H',I3,q3⟩)
  | next=>exact G3 O
  | brk=>exact G3 O
  | cont=>exact G3 O
 | error e =>
  obtain⟨a,C,H',rfl,R,C',ec,hk,a6⟩:=O;cases ec;have l:fR X.stack=fR (X.env::X.outer):=by rw[hs]
  have I3:D1 X pins σ H' s':=t.call' (ch:=[]) R.os R.un R.hok R.bare (λb z=>Zy z (by simp));have a7:KC X.prog X.w (fR (X.env::X.outer)) p N a C H' s':=by rw[<- l];exact R
  have S:∀b∈fR (X.env::X.outer),H' b=none:=λb hb=>I3.stkFree b (by rw[l];exact hb);refine a7.noteW (bs:=X.base) (by rw[I.ok.frames,hs]) (by rw[<- hs];exact I3.stack) a0 S λs3 F3=>?_;have inv:∀T,KC X.prog X.w (fR (X.env::X.outer)) p N a C H' T->D1 X pins σ H' T:=λT g=>t.call' (ch:=[]) g.os (by rw[l];exact g.un) g.hok g.bare (λb z=>Zy z (by simp));refine wpAny_handleBy_cons (codeAny_handlers_test (lP (X:=X.marked (.ref a)) ((inv s3 F3).marked _) hg hm ?_ d3)) (by intro q;cases q);obtain⟨T3,x3,n1,n2,n3,n4⟩:=F3.exc;obtain⟨ay,b0,a8,a9,b4,b5⟩:=x3.at;refine EZ (inv s3 F3).kIn a8 a9 hk hB ?_;show Z2 _ _ _ _ s3;refine codeAny_handlers_suite_as (F3.landW S λT g=>?_);obtain⟨T4,x4,m1,m2,m3,m4⟩:=g.exc;obtain⟨oe,vs,ab,ac,ad,al⟩:=x4.at;have I4:D1 X pins σ (C3 H' a (KN oe)) T:=t.call' (ch:=[]) g.os (by rw[l];exact g.un.know m3 m1) (g.hok.know m3 ab) g.bare (λb z=>Zy z (by simp));refine jn (X:=X.marked (.ref a)) (I4.marked _) hN hE (.inl i) (v:=.ref a) rfl (λs5 I5=>?_) (.inr i);have am:ur (X.marked (.ref a)) [.Assign [.Name o Z] (.Name n p6) p7] (GB (rR iE) (V5 iR)):=u6 (F7 hN hR (.inl y) (Bl hE (.inl i) d4 d5) w2 (.inr y));have U:iE<σ.length:=by rw[I.len];exact(ZW.mp hE).1
  refine C4 (am pins s5 _ _ { nx:=λan H2=>an=(σ.set iE (some (.ref a))).set iR (some (.ref a))/\H2=C3 H' a (KN oe),rt:=λ_ _=>False } I5 ⟨.ref a,bG U,rfl,rfl⟩) (λf s6 q=>?_) λ_ _ z=>G3 z;cases f with
  | ret v=>obtain⟨_,_,_,_,_,z⟩:=q;exact G3 z
  | brk=>obtain⟨_,_,_,z⟩:=q;exact G3 z
  | cont=>obtain⟨_,_,_,z⟩:=q;exact G3 z
  | next =>
   obtain⟨b6,H6,I6,ap,eH⟩:=q;subst ap;subst eH;refine Ed (I6.unmarked I.ok) hN hE i λs7 I7=>⟨_,_,I7,?_⟩
   have z:=a6 a oe ⟨ac,ad,vs,al⟩ m3;have ar:((σ.set iE (some (V.ref a))).set iR (some (V.ref a))).set iE none=(σ.set iR (some (V.ref a))).set iE none:=by apply fg;intro j;simp only[List.getElem?_set,lY];by_cases z1:iE=j <;> by_cases z2:iR=j <;> simp[z1,z2]
   rw[ar];exact z
structure XI (K:m9) (C:Addr):Prop where
 ga:O6 K (.ref C) "__getattribute__"=some (some (.builtin "BaseException.__getattribute__"))
 gt:O6 K (.ref C) "__getattr__"=some none
 sb:pZ K (.ref C) (.type "BaseException")=some true
 hc:(zT K C).isSome=true
 ha:O6 K (.ref C) "__class__"=some (some (.builtin "object.__class__"))
 hn:oQ K (.builtin "object.__class__") "__get__"=some (some (.builtin "getset_descriptor.__get__"))
 tk:FD K (.builtin "object.__class__")=some true
 hm:Ri K C (.type "object")=some true
def xt(c:(zT K C).isSome=true) (d:O6 K (.ref C) name=some (some a)) (e:oQ K a "__get__"=some (some g)) (f:FD K a=some true):
  RP K C none name=some (.bind g a):=by
 obtain⟨cd,c⟩:=Zo.mp c;unfold RP;rw[c,Km,d,Km];simp[e,f]
def EM(X:K.In s.heap) (I:UQ s.heap a oe C none)
  (f:O6 K (.ref C) "__getattribute__"=some (some (.builtin "BaseException.__getattribute__"))) (i:O6 K (.ref C) "__getattr__"=some none) (hs:pZ K (.ref C) (.type "BaseException")=some true)
  (o:RP K C none name=some (.bind g d)) {Q:Option b9->d9->Prop}
  (h:j8 (n6 prog w) A.in1 (call g [d,.ref a,.ref C]) (λv l=>j8 (n6 prog w) A (handedOut v) (λv e=>Q (some v) e) (λ_ _=>False) l) (λ_ _=>False) { s with toks:=s.toks+1 }):
  j8 (n6 prog w) A (getAttr? (.ref a) name) Q E s:=by
 obtain⟨p,N,O,t,os⟩:=s;have m:=I.type (M:=n6 prog w);have r:=Am (M:=n6 prog w) X f;have L2:=Am (M:=n6 prog w) X i;have u:=W.looks_find (M:=n6 prog w) X I o;have y:Rk (n6 prog w) p (isInstance (.ref a) (.type "BaseException")) true:=m.andThen (W.looks_subIn X hs);have D:=PySem.F.excAttr_ValueError.ga.bind (.ref a);unfold getAttr? getAttrBy? getAttrBy;refine b7 (wpAny_mkText (b7 (S8 (F2 (b7 (m.at (b7 (r.at ?_))))))));have j:(df "BaseException.__getattribute__" == df "object.__getattribute__")=false:=by decide
 have k:(UM (r6 C)&&df "BaseException.__getattribute__" == df "object.__getattribute__")=false:=by rw[j];rfl
 show j8 _ _ (if (UM (r6 C)&&df "BaseException.__getattribute__" == df "object.__getattribute__")=true then _ else getAttrByItsOwn _ _ _ _ _ _) _ _ _;rw[k,ZC (by decide)];unfold getAttrByItsOwn hookBefore;simp only[UM,if_true];refine b7 (L2.at (b7 (S8 (F2 ?_))));unfold callGetattribute;rw[ZC (by decide)];unfold boundAndCalled;refine b7 (qI D (nJ ?_));refine codeAny_call_builtin PySem.F.excAttr_ValueError.ga.plain PySem.F.entry_bexc_ga ?_;have J:builtinKind "BaseException.__getattribute__"=some .slot:=by decide
 have c:splitId "BaseException.__getattribute__"=some ("BaseException","__getattribute__"):=by decide
 have R:=PySem.F.args_bexc_ga (.ref a) (.str name t);simp only[checkBuiltinCall,J,c];refine b7 (y.at ?_);repeat (first|wp_step)
 refine DL I.at_ (f9 ?_);rw[I.cls];refine b7 (u.at ?_);show j8 _ _ (mE g d (.ref a) (.ref C)) _ _ _;unfold mE;dsimp only;exact b7 (F2 (C4 h (λv l z=>f9 (C4 z (λv e q=>f9 q) (λ_ _ z=>z.elim))) (λ_ _ z=>z.elim)))
def uc.inst(x:uc oe C) (e:h.get? a=some oe):UQ h a oe C none:=by
 obtain⟨c,d,g,f⟩:=x;refine⟨e,c,?_,?_⟩
 .obtain⟨i,j,k,sl⟩:=oe;dsimp only at f;subst f;rfl
 .rw[d]
  trivial
def Jr(Z:XI K C) (x:uc oe C):W.KitX K (.ref a) (.ref C) (λh=>h.get? a=some oe) where
 ty:=λ_ _ _ e=>(x.inst e).type
 it:=λ_ _ X _=>by
  obtain⟨cd,c⟩:=Zo.mp Z.hc;unfold zT at c;split at c
  case h_2=>cases c
  case h_1 c' d' cd' sl' ho =>
   intro j l m o k q;unfold isType loadHead;exact b7 (DL (k _ _ (X _ _ ho)) (f9 q))
 ne:=λh f dd g n sl X d=>by
  obtain⟨cd,c⟩:=Zo.mp Z.hc;refine Bool.eq_false_iff.mpr λq=>?_;have e:C=f:=Value.ref.inj (Zs.mp q);subst e;unfold zT at c;split at c
  case h_2=>cases c
  case h_1 c' d' cd' sl' ho =>
   have z:=(X _ _ ho).symm.trans d;cases z
 ca:=λ{_ _ _ _ _ s} X e k=>by have i:=xt Z.hc Z.ha Z.hn Z.tk;have I:=x.inst e;exact EM X I Z.ga Z.gt Z.sb i (nJ (W.class_get (s:={ s with toks:=s.toks+1 }) (ox:=oe) (od:=none) X I Z.hm (W.handed_on rfl k)))
def clV:V->Option b9
 | .ref D=>some (.ref D)
 | .ty T=>some (.type T)
 | _=>none
def rIsX (K:m9):List V->Hp->VK->Prop:=λe H Q=>∃a oe C c d b,e=[.ref a,c]/\H a=some (KN oe)/\uc oe C/\XI K C/\clV c=some d/\dR K (.ref C) d=some b/\Q (.bl b) H
def bX :cN X (.builtin "isinstance") (rIsX X.K):=by
 intro pins s σ H t v Q I r h;obtain⟨a,oe,C,c,g,b,rfl,i,x,Z,d,j,q⟩:=h;cases r with
 | cons k e =>
  cases e with
  | cons l e =>
   cases e;cases k;have m:∀u,K3 c u->u=g:=λu f=>by
    cases c with
    | ref D=>cases d;exact f
    | ty T=>cases d;exact f
    | _=>cases d
   have o:=m _ l;subst o;exact cw (Jr Z x) I.kIn (I.hok.kn i) j (by intro z;cases z) λp=>⟨.bl b,H,I.tok p,rfl,q⟩
theorem Cq:∀{bs:List Bool}{us:List b9},J9 (bs.map V.bl) us->us=bs.map R9
 | [],_,.nil=>rfl
 | _::_,_,.cons r t=>by rw[Cq t];cases r;rfl
def SM:V->List V->Hp->VK->Prop:=λx a H Q=>∃(l:Addr) (bs:List Bool) (j:Nat),x=.ref l/\a=[.bl true]/\H l=some (.lst (bs.map V.bl))/\bs[j]?=some true/\(∀m,m<j->bs[m]?=some false)/\Q (.int j) H
def EI :RF X "list.index" SM:=by
 intro pins s σ H x O v R Q I d f h;obtain⟨l,bs,j,rfl,rfl,g,i,a,q⟩:=h;cases d;obtain⟨u,rfl,k⟩:=f.one;cases k;obtain⟨z,o,n,r,S,e⟩:=I.lstM g;have p:=Cq r;subst p;obtain⟨t,D⟩:=ZW.mp i;have T:bs.length<=j6:=by simpa using z
 have J:j6<2 ^ 63 - 1:=by decide
 refine uw F.slot_list_index ⟨_,e,rfl⟩ F.entry_list_index (F.args_list_index_2 _ _)
  (SeqAt.list_indexAt l (bs.map R9).toArray n none #[] (.bool true) (λy=>y == R9 true) j (by simpa using t) (by lia) ?_ ?_) ⟨e,λy N=>?_,?_⟩
 .simp[D]
 .intro m U c;have:=a m c;obtain⟨m1,m2⟩:=ZW.mp this;simp[m2]
 .obtain⟨b,V,rfl⟩:∃b,b∈bs/\R9 b=y:=by simpa using N
  have eb:(R9 b == R9 true)=(b == true):=by cases b <;> rfl
  show oS _ _ _ _ (R9 b == R9 true);rw[eb];exact xI b true
 .exact⟨.int j,H,I.tok _,⟨_,rfl⟩,q⟩
def kj (cl:List (Str × Addr)) (b:Addr):Prop:=∃x,cl.lookup x=some b
open Classical in
noncomputable def eS (cl:List (Str × Addr)) (H:Hp):Hp:=λb=>if kj cl b then none else H b
open Classical in
noncomputable def Ae (cl:List (Str × Addr)) (H H':Hp):Hp:=λb=>if kj cl b then H b else H' b
def jO (h:kj cl b):eS cl H b=none:=by unfold eS;rw[ZB h]
def R6 (h:¬ kj cl b):eS cl H b=H b:=by unfold eS;rw[ZC h]
def Bn (h:kj cl b):Ae cl H H' b=H b:=by unfold Ae;rw[ZB h]
def fj (h:¬ kj cl b):Ae cl H H' b=H' b:=by unfold Ae;rw[ZC h]
def zO (cl:List (Str × Addr)) (H:Hp):Prop:=∀x c,cl.lookup x=some c->∃a v,H c=some (KN a)/\a.data=.cell v
def IQ (ok:dQ P w H h) (g:zO cl H):dQ P w (eS cl H) h:=λb o e=>by
 have i:¬ kj cl b:=λz=>by rw[jO z] at e;cases e
 rw[R6 i] at e;have d:∀c u,H c=some u->(∀a,u≠KN a)->¬ kj cl c:=λc u q n ⟨x,z⟩=>by obtain⟨a,v,f,_⟩:=g x c z;rw[q] at f;exact n a (E8 f)
 refine (ok b o e).stay (λ_ _ _ q=>q) (λc q=>?_) λc j q=>?_
 .rw[R6 (d c _ q (by intro a z;cases z))];exact q
 .rw[R6 (d c _ q (by intro a z;cases z))];exact q
def Nz (u:Un fs [] (eS cl H) H' h h') (ok:dQ P w H h) (i:zO cl H) (l:∀b∈fs,H b=none):Un fs [] H (Ae cl H H') h h':=by
 have nc:∀b,H b=none->¬ kj cl b:=λb n ⟨x,z⟩=>by obtain⟨a,v,q,_⟩:=i x b z;rw[n] at q;cases q
 have j:∀c u,H c=some u->(∀a,u≠KN a)->¬ kj cl c:=λc u q n ⟨x,z⟩=>by obtain⟨a,v,k,_⟩:=i x c z;rw[q] at k;exact n a (E8 k)
 refine⟨λb o e n f d=>u.keep b o e (by rw[R6 (nc b n)];exact n) f d,λb o e n f d=>u.slot b o e (by rw[R6 (nc b n)];exact n) f d,λb o e n d=>?_,u.there,λb g q=>?_,λb o g q=>?_,λb ps q=>?_⟩
 .rw[fj (nc b n)];exact u.free b o e (by rw[R6 (nc b n)];exact n) d
 .have z:=j b _ q (by intro a z;cases z);rw[fj z];exact u.tups b g (by rw[R6 z];exact q)
 .by_cases z:kj cl b
  .rw[Bn z];exact q
  .rw[fj z];exact u.frzs b o g (by rw[R6 z];exact q)
 .have z:=j b _ q (by intro a z;cases z);obtain⟨m,e⟩:=u.tbls b ps (by rw[R6 z];exact q);exact⟨m,by rw[fj z];exact e⟩
def Jz (u:Un fs [] (eS cl H) H' h h') (ok:dQ P w H h) (f:dQ P w H' h') (m:zO cl H) (i:∀b∈fs,H b=none):dQ P w (Ae cl H H') h':=λb o e=>by
 have j:∀c,kj cl c->H' c=none/\∃a v,H c=some (KN a)/\a.data=.cell v/\h'.get? c=some a:=λc z=>by obtain⟨x,k⟩:=z;obtain⟨a,v,q,d⟩:=m x c k;have g:=ok.kn q;exact⟨u.free c a g (jO ⟨x,k⟩) (by simp),a,v,q,d,u.keep c a g (jO ⟨x,k⟩) (λp=>by rw[i c p] at q;cases q) (by simp)⟩
 by_cases z:kj cl b
 .rw[Bn z] at e;obtain⟨_,a,v,q,d,g⟩:=j b z;rw[q] at e;cases e;exact vB g
 .rw[fj z] at e;refine (f b o e).stay (λ_ _ _ q=>q) (λc q=>?_) λc r q=>?_
  .rw[fj (λl=>by rw[(j c l).1] at q;cases q)];exact q
  .rw[fj (λl=>by rw[(j c l).1] at q;cases q)];exact q
def Oz(u:Un fs [] l H' h h') (ok:dQ P w l h) (i:dQ P w H' h') (I:zO cl l) (J:∀b,kj cl b->H b=none) (f:∀b,¬ kj cl b->l b=H b):Un fs [] H (eS cl H') h h'/\dQ P w (eS cl H') h':=by
 have r:∀b,kj cl b->∃a v,H' b=some (KN a)/\a.data=.cell v/\h.get? b=some a/\h'.get? b=some a:=λb z=>by obtain⟨x,N⟩:=z;obtain⟨a,v,q,d⟩:=I x b N;have j:=u.frzs b _ _ q;exact⟨a,v,j,d,ok.kn q,i.kn j⟩
 have D:∀c u,H' c=some u->(∀a,u≠KN a)->¬ kj cl c:=λc u q n z=>by obtain⟨a,v,j,_⟩:=r c z;rw[q] at j;exact n a (E8 j)
 have s:∀c u,H c=some u->¬ kj cl c:=λc u q z=>by rw[J c z] at q;cases q
 refine⟨⟨λb o e n t k=>?_,λb o e n t k=>?_,λb o e n k=>?_,u.there,λb p q=>?_,λb o p q=>?_,λb ps q=>?_⟩,λb o e=>?_⟩
 .by_cases z:kj cl b
  .obtain⟨a,v,_,_,g,y⟩:=r b z;rw[e] at g;cases g;exact y
  .exact u.keep b o e (by rw[f b z];exact n) t k
 .by_cases z:kj cl b
  .obtain⟨a,v,_,_,g,y⟩:=r b z;rw[e] at g;cases g;exact⟨o.slots,y⟩
  .exact u.slot b o e (by rw[f b z];exact n) t k
 .by_cases z:kj cl b
  .exact jO z
  .rw[R6 z];exact u.free b o e (by rw[f b z];exact n) k
 .have z:=s b _ q;rw[R6 z];exact u.tups b p (by rw[f b z];exact q)
 .have z:=s b _ q;rw[R6 z];exact u.frzs b o p (by rw[f b z];exact q)
 .have z:=s b _ q;obtain⟨m,e⟩:=u.tbls b ps (by rw[f b z];exact q);exact⟨m,by rw[R6 z];exact e⟩
 .have z:¬ kj cl b:=λz=>by rw[jO z] at e;cases e
  rw[R6 z] at e;refine (i b o e).stay (λ_ _ _ q=>q) (λc q=>?_) λc p q=>?_
  .rw[R6 (D c _ q (by intro a z;cases z))];exact q
  .rw[R6 (D c _ q (by intro a z;cases z))];exact q
def nu (q:Str) (T:Addr) (H:Hp):Prop:=∃ps,H T=some (.tbl ps)/\jY ps.toList /\
 ∀pos v,jX pos ps.toList=some v->∃c a d t,v=.ref c/\H c=some (KN a)/\a.data=.fields d/\d[1]?=some (.str q t)
def qj (h:jY l):l=[] ∨ ∃i t j u c r,l=.int i t::.int j u::c::r/\jY r:=by
 unfold jY at h;split at h
 .exact .inl rfl
 .exact .inr ⟨_,_,_,_,_,_,rfl,h⟩
 .exact h.elim
def yn(h:jY l):jY (l++[.int i t,.int j u,c]):=by
 generalize d:l.length=n;induction n using Rm generalizing l with
 | _ n f =>
  obtain e|⟨a,k,b,m,x,r,e,g⟩:=qj h
  .subst e;trivial
  .subst e;have z:jY (r++[.int i t,.int j u,c]):=f r.length (by rw[<- d];simp only[n5];lia) g rfl;exact z
def Fx(h:jY l) (e:jX pos (l++[.int i t,.int j u,c])=some v):jX pos l=some v ∨ v=c:=by
 generalize f:l.length=n;induction n using Rm generalizing l with
 | _ n g =>
  obtain q|⟨a,m,b,o,x,r,q,k⟩:=qj h
  .subst q;have d:(if (i == (pos.line:Int)&&j == (pos.col:Int))=true then some c else jX pos [])=some v:=e;by_cases z:(i == (pos.line:Int)&&j == (pos.col:Int))=true
   .rw[ZB z] at d;exact .inr (E8 d).symm
   .rw[ZC z] at d;cases d
  .subst q;have d:(if (a == (pos.line:Int)&&b == (pos.col:Int))=true then some x else jX pos (r++[.int i t,.int j u,c]))=some v:=e;show (if (a == (pos.line:Int)&&b == (pos.col:Int))=true then some x else jX pos r)=some v ∨ v=c;by_cases z:(a == (pos.line:Int)&&b == (pos.col:Int))=true
   .rw[ZB z] at d;rw[ZB z];exact .inl d
   .rw[ZC z] at d;rw[ZC z];exact g r.length (by rw[<- f];simp only[n5];lia) k d rfl
structure TZ (X:Cx) (T:Addr):Prop where
 code:∃c,X.env.code=.ref c/\W.CodeHd X.base c T
 blt:X.base.BuiltinsAt X.mg T
abbrev zd (X:Cx):Str:=X.env.qual++"<lambda>"
abbrev Jp (X:Cx) (a:fE) (body:Expr) (scope:O9) (c:Addr) (d:b9):Obj:=FG "<lambda>" (zd X) a body scope (Y0 X.env scope.names []) ((X.mg "__name__").getD .none) c d
def DH (q:Str) (H:Hp) (c:Addr):Prop:=∃a d t,H c=some (KN a)/\a.data=.fields d/\d[1]?=some (.str q t)
def tLam (X:Cx) (T:Addr) (a:fE) (body:Expr) (scope:O9):TE:=λσ H Q=>nu (zd X) T H /\
 ∀f c d H',(∀b o,b≠T->H b=some o->H' b=some o)->nu (zd X) T H'->H f=none->H' f=some (KN (Jp X a body scope c d))->DH (zd X) H' c->Q (.ref f) H'
def vm{body:Expr}(Z:TZ X T) (a3:defaultsOf a X.env=([],[]):=by rfl) (hf:aZ scope X.env=true:=by rfl):
  PE X (.Lambda a body scope pos) (tLam X T a body scope):=by
 intro pins s σ H Q I h;obtain⟨⟨ps,p,ht,hk⟩,q⟩:=h;obtain⟨c,hc,C⟩:=Z.code;obtain⟨bm,ob,b1,b2,b3,b4,b5,b6⟩:=Z.blt;have a4:=cM (I.closed hf);have hg:=I.mod.glob.keeps I.bk;have gP:s.heap.get? T=some (KR ps):=I.hok T _ p;have a8:A1≠T:=λz=>by obtain⟨o,es,ep,e,hd,_⟩:=hg;rw[z,gP] at e;cases e;cases hd
 have hB:s.heap.BuiltinsAt X.mg T:=⟨bm,ob,b1,b2,b3,b4,I.bk _ _ b5,b6⟩
 refine W.kla_eval a3 ?_;cases e:jX pos ps.toList with
 | none =>
  refine W.kla_makeFunction (mg:=X.mg) a4 I.ok.glob hg hc (C.keeps I.bk) gP ht e a8 hB λg i h' tk hx m J a5 N=>?_;obtain⟨c2,O,vs,t,e2,a9,hd,hv⟩:=a5;cases e2;have nT:T<s.heap.objs.size:=i5 gP;have cT:g≠T:=λz=>Zy m (by rw[z];exact Nat.not_le_of_lt nT);have fT:h'.objs.size≠T:=λz=>Zy (P3 m J) (by rw[z];exact Nat.lt_asymm nT);have fc:g≠h'.objs.size:=y7 J;have sz:s.heap.objs.size<=h'.objs.size:=j9 m (aJ J);have nc:H g=none:=I.hok.fresh m;have nf:H h'.objs.size=none:=I.hok.fresh sz;generalize a6:FG "<lambda>" (X.env.qual++"<lambda>") a body scope (Y0 X.env scope.names []) ((X.mg "__name__").getD .none) g i=r;generalize R:ps++#[N6 pos.line,N6 pos.col,.ref g]=k at N;have S:r.isFreed=false:=by rw[<- a6];rfl
  have kp:∀b o,b≠T->s.heap.get? b=some o->(h'.push r).get? b=some o:=λb o hb eb=>f6 _ (hx b o hb eb);let y:Hp:=C3 (C3 (C3 H T (.tbl k)) g (KN O)) h'.objs.size (KN r)
  have V:y T=some (.tbl k):=by show C3 (C3 (C3 H T (.tbl k)) g (KN O)) h'.objs.size (KN r) T=_;rw[t9 (G2 fT),t9 (G2 cT),j3]
  have Y:y g=some (KN O):=by show C3 (C3 (C3 H T (.tbl k)) g (KN O)) h'.objs.size (KN r) g=_;rw[t9 fc,j3]
  have a7:y h'.objs.size=some (KN r):=j3;have a0:∀b,b≠T->b≠g->b≠h'.objs.size->y b=H b:=λb z1 z2 z3=>by show C3 (C3 (C3 H T (.tbl k)) g (KN O)) h'.objs.size (KN r) b=_;rw[t9 z3,t9 z2,t9 z1]
  have f:∀b o,b≠T->H b=some o->y b=some o:=λb o z eb=>by rw[a0 b z (A5 eb nc) (A5 eb nf)];exact eb
  have old:∀b o,s.heap.get? b=some o->b≠g/\b≠h'.objs.size:=λb o eb=>⟨y7 (B5 (i5 eb) m),y7 (B5 (i5 eb) sz)⟩
  have uT:∀b,H b=none->b≠T:=λb n z=>by rw[z,p] at n;cases n
  have U:Un X.fs [] H y s.heap (h'.push r):=by
   refine⟨λb o eb n _ _=>kp b o (uT b n) eb,λb o eb n _ _=>⟨o.slots,kp b o (uT b n) eb⟩,λb o eb n _=>?_,λb o eb _=>?_,λb xs eb=>?_,λb o u eb=>?_,λb qs eb=>?_⟩
   .rw[a0 b (uT b n) (old b o eb).1 (old b o eb).2];exact n
   .by_cases z:b=T
    .subst z;exact⟨_,f6 _ N⟩
    .exact⟨o,kp b o z eb⟩
   .exact f b _ (λz=>by rw[z,p] at eb;cases eb) eb
   .exact f b _ (λz=>by rw[z,p] at eb;cases eb) eb
   .by_cases z:b=T
    .subst z;rw[p] at eb;cases eb;exact⟨_,by rw[V,<- R]⟩
    .exact⟨#[],by rw[f b _ z eb];simp⟩
  have OK:dQ X.prog X.w y (h'.push r):=λb o eb=>by
   by_cases z1:b=T
   .subst z1;rw[V] at eb;cases eb;exact f6 _ N
   .by_cases z2:b=g
    .subst z2;rw[Y] at eb;cases eb;exact vB (f6 _ a9)
    .by_cases z3:b=h'.objs.size
     .subst z3;rw[a7] at eb;cases eb;exact vB (j7 _ S)
     .rw[a0 b z1 z2 z3] at eb;refine (I.hok b o eb).stay (λd v hd D=>kp d v ?_ D) (λd D=>f d _ (λz=>by rw[z,p] at D;cases D) D) λd xs D=>f d _ (λz=>by rw[z,p] at D;cases D) D;obtain hd|hd:=hd
      .rw[hd];exact z1
      .intro z;rw[z,p] at hd;cases hd
  have I1:=I.un (t':=tk) U OK;have fin:=q h'.objs.size g i y f ⟨k,V,?_,λj v ev=>?_⟩ nf (by rw[a7,<- a6]) ⟨O,vs,t,Y,hd,hv⟩
  .exact⟨.ref h'.objs.size,y,I1,rfl,fin⟩
  .rw[<- R];have z:=yn (i:=pos.line) (j:=pos.col) (t:=0) (u:=0) (c:=.ref g) ht;simpa [N6] using z
  .rw[<- R] at ev;have ab:jX j (ps.toList++[.int pos.line 0,.int pos.col 0,.ref g])=some v:=by simpa [N6] using ev
   obtain z|z:=Fx ht ab
   .obtain⟨c3,a1,a2,t3,y1,y2,y3,y4⟩:=hk j v z;exact⟨c3,a1,a2,t3,y1,f c3 _ (λz=>by rw[z,p] at y2;cases y2) y2,y3,y4⟩
   .exact⟨g,O,vs,t,z,Y,hd,hv⟩
 | some cv =>
  obtain⟨c3,a1,a2,t3,y1,y2,y3,y4⟩:=hk pos cv e;subst y1;refine W.kla_makeFunctionHit (mg:=X.mg) a4 I.ok.glob hg hc (C.keeps I.bk) gP ht e hB λi h' tk ac sz=>?_;have nf:H h'.objs.size=none:=I.hok.fresh sz;have kp:∀b o,s.heap.get? b=some o->(h'.push (Jp X a body scope c3 i)).get? b=some o:=λb o eb=>f6 _ (ac b o eb);have I1:=I.laid (t':=tk) (o:=KN (Jp X a body scope c3 i)) kp sz (vB (j7 _ rfl));have f:∀b o,H b=some o->C3 H h'.objs.size (KN (Jp X a body scope c3 i)) b=some o:=λb o eb=>by rw[t9 (A5 eb nf)];exact eb
  refine⟨.ref h'.objs.size,_,I1,rfl,q h'.objs.size c3 i _ (λb o _ eb=>f b o eb) ⟨ps,f _ _ p,ht,λj v ev=>?_⟩ nf j3 ⟨a1,a2,t3,f _ _ y2,y3,y4⟩⟩;obtain⟨c4,ad,al,t4,x1,x2,x3,x4⟩:=hk j v ev;exact⟨c4,ad,al,t4,x1,f _ _ x2,x3,x4⟩
def vG (P:j0) (w:w5) (K:m9) (mg:Str->Option b9) (base:Heap) (N:List Str) (c:Str) (scope:O9) (f:Addr) (cd:b9) (cl:List (Str × Addr)) (A:A3) (a:List Env) (s:d9) (H:Hp) (E:XK):Cx where
 prog:=P
 w:=w
 K:=K
 mg:=mg
 base:=base
 A:=A.deeper (rH c scope s.heap.objs.size f cd cl)
 N:=N
 s₀:=s
 H₀:=H
 env:=rH c scope s.heap.objs.size f cd cl
 outer:=a
 stack:=rH c scope s.heap.objs.size f cd cl::a
 ex:=[]
 calm:=true
 fn:=λ_=>false
 pn:=[]
 xe:=λe g=>j8 (n6 P w) (A.deeper (rH c scope s.heap.objs.size f cd cl)) (qY (rH c scope s.heap.objs.size f cd cl) e) (λ_ d=>fO P w a H s E e d) (λi d=>fO P w a H s E i d) g
def CS:fN (fO P w) (vG P w K mg base N qual scope f cd cl A outer s₀ H₀ E) E:=by intro pins σ H s e q I h;obtain⟨a,C,H',rfl,F,c⟩:=h;obtain⟨T,x,d,g,i,j⟩:=F.exc;have k:=I.call' (ch:=[]) F.os F.un F.hok F.bare (λb z=>Zy z (by simp));exact xp k rfl rfl rfl x (gE I.base d) (λm z=>by cases z;exact gE I.base g) i (λm z=>by cases z;exact j) λo p=>⟨a,C,H',rfl,p,c⟩
def Ke (cl:List (Str × Addr)) (scope:O9) (N:List Str) (H:Hp) (σ:St):Prop:=σ.length=N.length /\
 ∀(i:Nat) (x:Str) (v:V),N[i]?=some x->σ[i]?=some (some v)->scope.names.lookup x=some .free/\∃c a u,cl.lookup x=some c/\H c=some (KN a)/\a.data=.cell (some u)/\K3 v u
structure oI (cl:List (Str × Addr)) (scope:O9):Prop where
 kind:scope.kind=.function
 co:scope.isCoroutine=false
 gen:scope.isGenerator=false
 nocell:∀x∈scope.names,x.2≠.cell
 inj:∀x y c,cl.lookup x=some c->cl.lookup y=some c->x=y
 has:∀x,scope.names.lookup x=some .free->∃c,cl.lookup x=some c
theorem fw {a:Type}:∀{l:List (Str × a)}{x:Str}{c:a},l.lookup x=some c->∃y,(y,c)∈l/\y=x
 | [],_,_,h=>by cases h
 | (y,d)::r,x,c,h=>by
  by_cases z:(x == y)=true
  .rw[G6,z] at h;cases h;exact⟨y,f7,(Zs.mp z).symm⟩
  .rw[G6,Bool.eq_false_iff.mpr z] at h;obtain⟨f,m,e⟩:=fw h;exact⟨f,g0 _ m,e⟩
def oI.nc (S:oI cl scope) (h:scope.names.lookup x=some .cell):False:=by obtain⟨y,m,_⟩:=fw h;exact S.nocell _ m rfl
def fnL{O:fE}
  (S:oI cl scope)
  (a2:∀vs H Q E,sp vs H Q E->vs=[]/\H f=some (KN (FG name m O body scope cl pm c ct))/\DH m H c/\zO cl H/\∃σ,Ke cl scope N H σ /\
   ∀(A:A3) (j:List Env) (s:d9),bD k (A.deeper (rH m scope s.heap.objs.size f (.ref c) cl))->∃t,PE (vG P w K mg base N m scope f (.ref c) cl A j s (eS cl H) (λC d H'=>E C d (Ae cl H H'))) body t/\t σ (eS cl H) (λv H'=>Q v (Ae cl H H'))):
  K6 P w K mg base (fO P w) (k+1) f (W.kla_fn name m O body scope cl pm (.ref c) ct) [] sp:=by
 refine⟨λvs H Q E q=>by rw[(a2 vs H Q E q).1];rfl,λA j s H ad us vs Q E hr e0 hb r hq=>?_⟩;obtain⟨rfl,hf,⟨oc,a6,t,hc,a7,a8⟩,ck,σ,a3,a4⟩:=a2 _ _ _ _ hq;have a9:s.heap.NoLimit:=e0.mod.nolimit.keeps λb o e=>(e0.bs b o e).1;have gf:=e0.hok.kn hf;have gc:=e0.hok.kn hc;refine W.kla_callFunE hr.depth gf rfl S.co S.gen rfl ⟨c,oc,a6,t,rfl,gc,a7,a8⟩ (hb _ _ _ _ ?_);refine wpAny_newFunctionEnv S.nocell (λx hx=>Zy hx (by simp)) (λh1 ab a5=>⟨a9.fresh _ a5,?_⟩) S.kind;show Z2 _ _ (.expr body (rH m scope s.heap.objs.size f (.ref c) cl)) _ _;have V:∀b o,s.heap.get? b=some o->h1.get? b=some o:=λb o e=>a5.extBut b o (y7 (i5 e)) (f6 _ e);obtain⟨tt,a0,ht⟩:=a4 A j s (hr.deeper _);have Y:∀b∈fR j,H b=none:=e0.frf;have ok0:=IQ e0.hok ck;have R:∀b,H b=none->eS cl H b=none:=λb n=>by
  by_cases z:kj cl b
  .exact jO z
  .rw[R6 z];exact n
 have nL:∀x d,cl.lookup x=some d->d<s.heap.objs.size/\∃oc v,s.heap.get? d=some oc/\oc.data=.cell v:=λx d e=>by obtain⟨oc,v,q,dd⟩:=ck x d e;have g:=e0.hok.kn q;exact⟨i5 g,oc,v,g,dd⟩
 have I:D1 (vG P w K mg base N m scope f (.ref c) cl A j s (eS cl H) (λC d H'=>E C d (Ae cl H H'))) [] σ (eS cl H) { s with heap:=h1,toks:=s.toks+([]:List (Str × b9)).length }:=by
  have a1:∀b:Addr,b ∉ (vG P w K mg base N m scope f (.ref c) cl A j s (eS cl H) (λC d H'=>E C d (Ae cl H H'))).ex:=λb z=>Zy (show b∈([]:List Addr) from z) (by simp);refine⟨⟨e0.mod,S.kind,rfl,rfl,i4 _,S.inj,λy hy=>?_,λy d hy _=>Zy (show false=true from hy) (by simp),λ_=>hr.hd,Cp e0.frames,.inr ⟨rfl,rfl⟩,λb z=>Zy z (a1 b),λb o e=>⟨(e0.bs b o e).1,R b (e0.bs b o e).2⟩,e0.bsz,λb _ _=>a1 b,λb z=>Zy z (a1 b),e0.funs,λb hb=>R b (e0.frf b hb)⟩,
   rfl,e0.bare,Un.kept V,⟨_,ab,λi y v ac h2 h3=>?_⟩,λy d h=>?_,R _ (e0.hok.fresh (i4 _)),λy d h=>jO ⟨y,h⟩,λp hp=>Zy (show p∈([]:List (Addr × Obj)) from hp) (by simp),ok0.kept V,a3.1⟩
  .have U:scope.names.lookup y=some .cell ∨ scope.names.lookup y=some .free:=hy;obtain U|U:=U
   .exact(S.nc U).elim
   .exact S.has y U
  .obtain⟨kf,d,Z,u,e1,e2,e3,rv⟩:=a3.2 i y v ac h2;exact⟨u,rv,.inr ⟨.inr kf,d,e1,Z,V _ _ (e0.hok.kn e2),e3⟩⟩
  .obtain⟨_,Z,v,g,dd⟩:=nL y d h;exact⟨v,Z,V _ _ g,dd⟩
 refine W.kla_codeExpr (C4 (a0 [] _ σ (eS cl H) _ I ht) (λu s' ⟨v,H',J,rv,q⟩=>?_) λe s' hx=>?_)
 .exact⟨v,Ae cl H H',J.os,J.bare,Nz J.base e0.hok ck Y,Jz J.base e0.hok J.hok ck Y,rv,q⟩
 .have conv:∀e D,fO P w j (eS cl H) s (λC d H'=>E C d (Ae cl H H')) e D->fO P w j H s E e D:=λe D h=>by
   obtain⟨a,C,H',rfl,F,hE⟩:=h;obtain⟨T,x,n1,n2,n3,n4⟩:=F.exc;have nC:∀b,s.heap.get? b=none->¬ kj cl b:=λb n ⟨x,z⟩=>by obtain⟨_,Z,v,g,_⟩:=nL x b z;rw[n] at g;cases g
   exact⟨a,C,Ae cl H H',rfl,⟨F.os,F.bare,Nz F.un e0.hok ck Y,Jz F.un e0.hok F.hok ck Y,T,x,n1,n2,by rw[fj (nC a n1)];exact n3,by rw[fj (nC T n2)];exact n4⟩,hE⟩
  exact C4 hx (λ_ D h=>conv e D h) λe' D h=>conv e' D h
structure tZ (X:Cx) (σ:St) (H Hf:Hp):Prop where
 out:∀b,¬ kj X.env.cells b->Hf b=H b
 none:∀b,kj X.env.cells b->H b=none
 cell:zO X.env.cells Hf
 val:∀(i:Nat) (x:Str) (v:V),X.N[i]?=some x->σ[i]?=some (some v)->(X.env.kindOf x=some .cell ∨ X.env.kindOf x=some .free)->∃c oc u,X.env.cells.lookup x=some c/\Hf c=some (KN oc)/\oc.data=.cell (some u)/\K3 v u
open Classical in
noncomputable def mZ (cl:List (Str × Addr)) (h:Heap) (H:Hp):Hp:=λb=>if kj cl b then (h.get? b).map (λo=>KN o) else H b
def D1.frz {X:Cx}{pins:List (Addr × Obj)}{σ:St}{H:Hp}{s:d9} (I:D1 X pins σ H s):tZ X σ H (mZ X.env.cells s.heap H)/\dQ X.prog X.w (mZ X.env.cells s.heap H) s.heap:=by
 have j:∀b,kj X.env.cells b->∃o v,s.heap.get? b=some o/\o.data=.cell v/\mZ X.env.cells s.heap H b=some (KN o):=λb z=>by obtain⟨x,t⟩:=z;obtain⟨v,o,e,d⟩:=I.cell x b t;refine⟨o,v,e,d,?_⟩;unfold mZ;rw[ZB ⟨x,t⟩,e];rfl
 have a:∀b,¬ kj X.env.cells b->mZ X.env.cells s.heap H b=H b:=λb z=>by unfold mZ;rw[ZC z]
 have k:∀b,kj X.env.cells b->H b=none:=λb ⟨x,z⟩=>I.freeC x b z;refine⟨⟨a,k,λx c z=>?_,λi x v D J f=>?_⟩,λb o e=>?_⟩
 .obtain⟨o,v,_,d,q⟩:=j c ⟨x,z⟩;exact⟨o,v,q,d⟩
 .obtain⟨m,R,N⟩:=I.loc;obtain⟨u,r,lk⟩:=N i x v D J (by obtain f|f:=f;exact .inr (.inl f);exact .inr (.inr f));obtain⟨z,_⟩|⟨_,c,e,O,g,d⟩:=lk
  .rw[z] at f;rcases f with f|f <;> cases f
  .obtain⟨o,S,y,U,q⟩:=j c ⟨x,e⟩;rw[g] at y;cases y;exact⟨c,O,u,e,q,d,r⟩
 .by_cases z:kj X.env.cells b
  .obtain⟨V,v,g,d,q⟩:=j b z;rw[q] at e;cases e;exact vB g
  .rw[a b z] at e;refine (I.hok b o e).stay (λ_ _ _ q=>q) (λc q=>?_) λc Y q=>?_
   .rw[a c (λp=>by rw[k c p] at q;cases q)];exact q
   .rw[a c (λp=>by rw[k c p] at q;cases q)];exact q
def Gz (X:Cx) (sp:Sp) (t:TA):TE:=λσ H Q=>t σ H λc d=>∀a,tZ X σ d a->sp c a (λv H'=>Q v (eS X.env.cells H')) E0
variable {e:Expr}
def Ir{fd:C5}{p:Pos} (F:K6 X.prog X.w X.K X.mg X.base ee k f fd ps sp) (hr:bD k X.A) (hg:Gl X x) (hm:X.mg x=some (.ref f)) (hk:aN X.K (.ref f)=true) (a:cO X.K fd ps [])
  (i:∀y,X.fn y=true:=by intro y;rfl)
  (ha:PA X (e::es) t) (O:(x == ("__debug__":Str))=false:=by decide) (he:B9 (e::es) X.env=(false,eval e X.env)::B9 es X.env:=by rfl) (R:(Z7 pos (B9 es X.env)).any (·.1)=false:=by rfl):
  PE X (.Call (.Name x p) (e::es) [] pos) (Gz X sp t):=by
 intro pins s σ H Q I h;refine cm (lP I hg hm ?_ O);refine FV (h₀:=X.base) I.ok.mod.kin hk (S6 (ha pos pins s σ H _ I h) λj N ⟨vs,H1,c,r,q⟩=>⟨c.kIn,?_⟩) he R;obtain⟨g,d⟩:=c.frz;have q':=q _ g;have r2:J9 (vs++[]) (j++[]):=r.append .nil;have hl:(j++[]).length=ps.length:=by rw[<- r2.length,P4];exact F.len _ _ _ _ q'
 have e0:=c.env0;have S:∀b o,X.base.get? b=some o->¬ kj X.env.cells b:=λb o eb ⟨y,z⟩=>Zy (B5 (i5 eb) I.ok.bsz) (kH (I.ok.cab y b (i y) z));have U:∀b∈fR X.stack,¬ kj X.env.cells b:=λb a ⟨y,z⟩=>by
  obtain e|a:=C7.mp (c.stkSub b a)
  .exact c.cne y b z e
  .obtain⟨_,o,ho,_⟩:=c.ok.funs.mem a;exact Zy (i5 ho) (kH (I.ok.cab y b (i y) z))
 have e1:zN X.prog X.w X.K X.mg X.base X.A X.stack N (mZ X.env.cells N.heap H1):=⟨e0.frames,e0.mod,λb o eb=>⟨(e0.bs b o eb).1,by rw[g.out b (S b o eb)];exact(e0.bs b o eb).2⟩,e0.bsz,e0.funs,λb a=>by rw[g.out b (U b a)];exact e0.frf b a,d,e0.bare⟩
 refine nJ (dz (F.run X.A X.stack N _ ⟨j,[]⟩ j vs _ E0 hr e1 (by have z:=a N j c.kIn hl;rw[P4] at z;exact z) r q') λV s' m=>?_);cases V with
 | error e=>exact G3 m
 | ok fl =>
  cases fl with
  | ret u =>
   obtain⟨v,H',os,D,un,Y,rv,qq⟩:=m;obtain⟨Z,J⟩:=Oz (H:=H1) un d Y g.cell g.none g.out;exact c.after ⟨v,_,os,D,Z,J,rv,qq⟩
  | next=>exact G3 m
  | brk=>exact G3 m
  | cont=>exact G3 m
abbrev TJ:=St->Hp->(Hp->Prop)->Prop
def PJ (X:Cx) (es:List Expr) (n:Nat) (t:TJ):Prop :=
 ∀(a:Str),a.length<=n->∀(pins:List (Addr × Obj)) (s:d9) (σ:St) (H:Hp) (Q:Hp->Prop),D1 X pins σ H s->t σ H Q ->
  j8 (n6 X.prog X.w) X.A (qZ a (vS es X.env)) (λu c=>∃z H',D1 X pins σ H' c/\K3 (.str z) u/\Q H') X.xe s
def Bj (h:n<=j6:=by decide):PJ X [] n (λ_ H Q=>Q H):=by intro a c pins s σ H Q I q;exact joinParts_nil (s:=s) ⟨a,H,I.tok _,⟨_,rfl⟩,q⟩ (j9 c h)
def pI(h:PJ X es (n+x.length) t) (hz:n+x.length<=j6:=by decide):PJ X (.Constant (.str x) j pos::es) n t:=by
 intro a c pins s σ H Q I q;show j8 _ _ (qZ a (eval (.Constant (.str x) j pos) X.env::vS es X.env)) _ _ _;refine qK (oU ⟨?_,?_⟩)
 .rw[A9];lia
 .exact h (a++x) (by rw[A9];lia) pins _ σ H Q (I.tok _) q
def wQ(f:PE X e d) (h:PJ X es (n+100) t) (hz:n+100<=j6:=by decide):
  PJ X (.FormattedValue e (-1) none pos::es) n (λσ H Q=>d σ H λv a=>∃i:Int,v=.int i/\i.natAbs.log2<1920/\(toString i:Str).length<=100/\t σ a Q):=by
 intro c o pins s σ H Q I q;show j8 _ _ (qZ c (eval (.FormattedValue e (-1) none pos) X.env::vS es X.env)) _ _ _;refine qK (Ov (S6 (f pins s σ H _ I q) λu p ⟨v,a,g,r,i,ev,j,k,m⟩=>?_));subst ev;obtain⟨y,rfl⟩:=r;refine Nl j ⟨?_,?_⟩
 .rw[A9];lia
 .exact h _ (by rw[A9];lia) pins _ σ a Q (g.tok _) m
def wV{aW:List Expr}(h:PJ X (c::d::aW) 0 t):PE X (.JoinedStr (c::d::aW) pos) (λσ H Q=>t σ H λa=>∀z,Q (.str z) a):=by intro pins s σ H Q I q;exact JoinedStr_many (S6 (h aj (i4 _) pins s σ H _ I q) λu i ⟨z,a,f,r,g⟩=>⟨.str z,a,f,r,g z⟩)
def iV :fN (fO P w) X E0:=λ_ _ _ _ _ _ _ h=>by obtain⟨_,_,_,_,_,z⟩:=h;exact z.elim
def aU.okX{st:Stmt} (F:aU K x c st f m) (S:C6 N ps (A0 st)) (len:∀vs H Q E,sp vs H Q E->vs.length=ps.length)
  (g:∀(d:b9) (A:A3) (a:List Env) (s:d9) (H:Hp) (vs:List V) (Q:VK) (E:XK),bD k (A.deeper (bo c (A0 st) s.heap.objs.size f d))->sp vs H Q E ->
   ∃t,ur (gw (fO P w) P w K mg base N c (A0 st) f d A a s H E) (Z4 st) t/\t { nx:=λ_ H'=>Q .non H',rt:=Q } (start N vs) H):K6 P w K mg base (fO P w) (k+1) f m ps sp:=by
 obtain⟨r,u,kV,o,v,y,d,z,p,rfl,lk,i⟩:=F.ex;exact JI lk i S len λA a s H vs Q E q j=>g d A a s H vs Q E q j
def aU.okC{st:Stmt} (F:aU K x c st f i) (S:C6 N ps (A0 st)) (len:∀vs H Q E,sp vs H Q E->vs.length=ps.length)
  (g:∀(d:b9) (A:A3) (a:List Env) (s:d9) (H:Hp) (vs:List V) (Q:VK) (E:XK),i.code=d->bD k (A.deeper (bo c (A0 st) s.heap.objs.size f d))->sp vs H Q E ->
   ∃t,ur (gw ee P w K mg base N c (A0 st) f d A a s H E).nox (Z4 st) t/\t { nx:=λ_ H'=>Q .non H',rt:=Q } (start N vs) H):K6 P w K mg base ee (k+1) f i ps sp:=by
 obtain⟨u,v,kV,o,y,z,d,D,p,rfl,lk,j⟩:=F.ex;refine JI lk j S len λA a s H vs Q E r m=>?_;obtain⟨t,h,q⟩:=g d A a s H vs Q E rfl r m;exact⟨t,h.nox,q⟩
def aL{np cpos pos:Pos} (k:mg x=some (.ref C)) (m:XC K C) (o:PE (gw (fO P w) P w K mg base N qual scope f cd A outer s₀ H₀ E) e c)
  (a:∀σ H (Q j:VK),(∀v d,Q v d->j v d)->c σ H Q->c σ H j)
  (p:Gl (gw (fO P w) P w K mg base N qual scope f cd A outer s₀ H₀ E) x:=by rfl)
  (i:(x == ("__debug__":Str))=false:=by decide)
  (g:B9 [e] (bo qual scope s₀.heap.objs.size f cd)=(false,eval e (bo qual scope s₀.heap.objs.size f cd))::B9 [] (bo qual scope s₀.heap.objs.size f cd):=by rfl):
  PS (gw (fO P w) P w K mg base N qual scope f cd A outer s₀ H₀ E) (.Raise (some (.Call (.Name x np) [e] [] cpos)) none pos) (λ_ σ H=>c σ H λ_ d=>E (.ref C) none d):=by
 have h:=HZ (E:=E) (pos:=pos) (np:=np) (cpos:=cpos) (t:=kM c rS) p k m (b8 o i3 (hs:=g)) (i4 _) i g rfl (λσ H Q q=>a _ _ _ _ (λv d z=>⟨by show 1<=j6;decide,z⟩) q);exact h
def Kc (ts:List Addr) (H:Hp):Prop:=(∀b,H b=none ∨ (∃o a,H b=some (.frz o (.lst a))) ∨ (b∈ts/\H b=some (.tbl #[])))/\∀T∈ts,H T=some (.tbl #[])
def EL 
  (KX:K.In c.heap) (O:c.heap.Ns A1 mg) (f:c.heap.Ns nQ mb) (a4:∀x:Str,x≠"__name__"->mb x=aV x) (Y:c.heap.NoLimit) (hg:c.gens=#[])
  (a5:∃Z ob,mg "__builtins__"=some (.ref Z)/\Z≠nQ/\c.heap.get? Z=some ob/\ob.cls=.type "module"/\ob.dict=some nQ/\ob.data=.plain)
  (ha:c.heap.get? a=some { cls:=.type "list",data:=.seq vs.toArray }) (hi:bH vs ns) (hl:ns.length<=j6) (hr:bD k vT)
  (i:∀T∈ts,c.heap.get? T=some (KR #[])/\isCodeTable c.heap T/\K.lookup T=none)
  (F:∀base:Heap,K.In base->base.Ns A1 mg->(∀T∈ts,base.BuiltinsAt mg T)->K6 P w K mg base ee k fa fd [x] sp) (R:∀(s:d9) (u:b9),vY s fd ⟨[u],[]⟩ [(x,u)])
  (a6:∀H:Hp,Kc ts H->jc K H a (ns.map V.int)->sp [.ref a] H (λv _=>v=.bl true) λ_ _ _=>False):
  Z2 (n6 P w) vT (.call (.ref fa) ⟨[.ref a],[]⟩) (λr t=>r=.ok (.ret (.bool true))/\OldK c.heap t.heap/\t.os=c.os/\lJ t.gens) c:=by
 have rv:=uU hi;have a0:=hi.length;have aT:a ∉ ts:=λz=>by have e:=(i a z).1;rw[ha] at e;cases e
 have D:∀H:Hp,Kc ts H->jc K H a (ns.map V.int)->dQ P w H c.heap->(∀b,H b≠none->b=a ∨ b∈ts)->(H a≠none->K.lookup a=none) ->
   Z2 (n6 P w) vT (.call (.ref fa) ⟨[.ref a],[]⟩) (λr t=>r=.ok (.ret (.bool true))/\OldK c.heap t.heap/\t.os=c.os/\lJ t.gens) c:=by
  intro H hO hS S hA hK;have g:∀{b:Addr}{o:Obj},c.heap.get? b=some o->H b=none->(uJ c.heap H).get? b=some o:=λe n=>JA e n;have a1:∀{b:Addr}{o:Obj},c.heap.get? b=some o->(∀I n,o.data≠.seq I n)->(∀I,o.data≠.fields I)->H b=none:=λ{b o} e d1 d2=>by
   cases q:H b with
   | none=>rfl
   | some u =>
    rcases hA b (by rw[q];simp) with U|U
    .subst U;rw[ha] at e;cases e;exact Zy rfl (d1 _ _)
    .rw[(i b U).1] at e;cases e;exact Zy rfl (d2 _)
  have a7:∀{b:Addr}{o:Obj}{es:Array J2}{ep:Nat},c.heap.get? b=some o->o.data=.dict es ep->H b=none:=λ{b o es ep} e d =>
   a1 e (λI n z=>by rw[d] at z;cases z) (λI z=>by rw[d] at z;cases z)
  have y:∀{b:Addr}{m:Str->Option b9},c.heap.Ns b m->(uJ c.heap H).Ns b m:=λ{b m} ⟨o,es,ep,e,d,r⟩=>⟨o,es,ep,g e (a7 e d),d,r⟩
  have a2:K.In (uJ c.heap H):=λb o e=>g (KX b o e) (by
   cases q:H b with
   | none=>rfl
   | some u =>
    rcases hA b (by rw[q];simp) with U|U
    .subst U;rw[hK (by rw[q];simp)] at e;cases e
    .rw[(i b U).2.2] at e;cases e)
  have hM:Mod K mg (uJ c.heap H):=⟨a2,y O,⟨mb,y f,a4⟩,let ⟨mc,h1,h2⟩:=Y;⟨mc,y h1,h2⟩⟩
  have a8:∀T∈ts,(uJ c.heap H).BuiltinsAt mg T:=λT hT=>by
   obtain⟨Z,ob,b1,b2,b3,b4,b5,b6⟩:=a5;refine⟨Z,ob,b1,b2,λz=>?_,λz=>?_,g b3 (a1 b3 (λI n z=>by rw[b6] at z;cases z) (λI z=>by rw[b6] at z;cases z)),b4,b5,b6⟩
   .obtain⟨o,es,ep,e,d,_⟩:=O;rw[<- z,b3] at e;cases e;rw[b6] at d;cases d
   .rw[z,(i T hT).1] at b3;cases b3;cases b4
  have e0:zN P w K mg (uJ c.heap H) vT [] c H:=⟨rfl,hM,λb o e=>Mf e,DY (EV _ _),trivial,λb f=>Zy (show b∈([]:List Addr) from f) (by simp),S,.of_eq hg⟩
  refine dz ((F _ a2 (y O) a8).run vT [] c H ⟨[.ref a],[]⟩ [.ref a] [.ref a] _ _ hr e0 (R c (.ref a)) (.cons rfl .nil) (a6 H hO hS)) λr t h=>?_;cases r with
  | error e=>exact G3 h
  | ok fl =>
   cases fl with
   | next=>exact G3 h
   | brk=>exact G3 h
   | cont=>exact G3 h
   | ret u =>
    obtain⟨v,H',os,a3,un,J,r',q⟩:=h;have q':v=.bl true:=q;subst q';obtain rfl:u=R9 true:=r';refine⟨rfl,⟨λb o e=>?_,λb o e=>un.there b o e (by simp)⟩,os,a3⟩;cases q:H b with
    | none=>exact .inl (un.keep b o e q (by intro z;exact Zy (show b∈([]:List Addr) from z) (by simp)) (by simp))
    | some u =>
     obtain z|⟨ob,I,z⟩|⟨hT,z⟩:=hO.1 b
     .rw[q] at z;cases z
     .have z2:=un.frzs b ob _ z;obtain⟨e1,_⟩:=S b _ z;obtain⟨e2,_⟩:=J b _ z2;rw[e] at e1;cases e1;exact .inl e2
     .obtain⟨more,z2⟩:=un.tbls b _ z;have e1:c.heap.get? b=some { cls:=.none,data:=.fields #[] }:=S b _ z;have e2:t.heap.get? b=some { cls:=.none,data:=.fields (#[]++more) }:=J b _ z2;rw[e] at e1;cases e1;exact .inr (.inl ⟨(i b hT).2.1,rfl,#[],more,rfl,e2⟩)
 have j:∀(H:Hp) (T:Addr),T∈ts->O4 P w H c.heap T (.tbl #[]):=λH T hT=>(i T hT).1;cases hk:K.lookup a with
 | some o =>
  have e:=KX a o hk;rw[ha] at e;cases e;refine D (λb=>if b∈ts then some (.tbl #[]) else none) ⟨λb=>?_,λT hT=>ZB hT⟩ (.inr ⟨_,vs.toArray,_,hk,rfl,rfl,rfl,by rw[A2,a0];exact hl,by simpa using rv⟩) (λb u z=>?_) (λb z=>?_) λz=>Zy (ZC aT) z
  .by_cases f:b∈ts
   .exact .inr (.inr ⟨f,ZB f⟩)
   .exact .inl (ZC f)
  .by_cases f:b∈ts
   .have N:=(ZB f).symm.trans z;cases N;exact j _ b f
   .have N:=(ZC f).symm.trans z;cases N
  .by_cases f:b∈ts
   .exact .inr f
   .exact Zy (ZC f) z
 | none =>
  refine D (λb=>if b=a then some (.frz { cls:=.type "list",data:=.seq vs.toArray } (.lst (ns.map V.int))) else if b∈ts then some (.tbl #[]) else none) ⟨λb=>?_,λT hT=>?_⟩ (.inl (.inr ⟨{ cls:=.type "list",data:=.seq vs.toArray },ZB rfl⟩)) (λb u z=>?_) (λb z=>?_) λ_=>hk
  .by_cases f:b=a
   .exact .inr (.inl ⟨_,_,ZB f⟩)
   .by_cases p:b∈ts
    .exact .inr (.inr ⟨p,(ZC f).trans (ZB p)⟩)
    .exact .inl ((ZC f).trans (ZC p))
  .exact(ZC (λz=>aT (by rw[<- z];exact hT))).trans (ZB hT)
  .by_cases f:b=a
   .have N:=(ZB f).symm.trans z;cases N;subst f;exact⟨ha,by rw[d8];exact hl,vs,_,rv,ha⟩
   .have N:=(ZC f).symm.trans z;by_cases p:b∈ts
    .have z2:=(ZB p).symm.trans N;cases z2;exact j _ b p
    .have z2:=(ZC p).symm.trans N;cases z2
  .by_cases f:b=a
   .exact .inl f
   .by_cases p:b∈ts
    .exact .inr p
    .exact Zy ((ZC f).trans (ZC p)) z
def Gn{l:RQ}{K:Params->m9}{sp:w5->Sp}
  (Z:l.most=some n) (r:n<=j6) (t:d.params.defaults=[]) (hr:bD k vT)
  (hY:∀(w:w5) (h:Heap),p w h->(K w.params).In h) (hT:∀(w:w5) (h:Heap),p w h->∀T∈ts,h.get? T=some (KR #[]))
  (F:∀(w:w5) (mg:Str->Option b9) (m:Addr) (h:Heap),(K w.params).In h->h.Ns A1 mg->mg d.name=some (.ref m) ->
   ∃y:C5,(∀(s:d9) (u:b9),vY s y ⟨[u],[]⟩ [(x,u)])/\(∀T∈ts,(K w.params).lookup T=none/\∃c,mD (K w.params) c T=true) /\
    ∀base:Heap,(K w.params).In base->base.Ns A1 mg->(∀T∈ts,base.BuiltinsAt mg T)->K6 l.prog w (K w.params) mg base ee k m y [x] (sp w))
  (z:∀(w:w5) (H:Hp) (a:Addr) (ns:List Int),ns.length<=n->Kc ts H->jc (K w.params) H a (ns.map V.int)->sp w [.ref a] H (λv _=>v=.bl true) λ_ _ _=>False):
  W.WalkO q loose U p l.row.toRowW d [] (λf J=>FX f J):=by
 refine Att.zJ Z t λw N O mg mb m o pm cd a0 a J ns G Y ho hd a1 D j i g hg=>?_;have I:=hY w _ Y;obtain⟨y,hb,ht,hF⟩:=F w mg m _ I G.T.g D;refine EL I G.T.g G.T.b G.T.builtins G.T.nolimit hg G.T.bmain j i (j9 g r) hr (λT R=>?_) hF hb (λH hO hS=>z w H a ns g hO hS);obtain⟨h1,c,h2⟩:=ht T R;have S:=hT w _ Y T R;exact⟨S,((W.codeHd_of_K I h2).tab S).isCodeTable,h1⟩
structure Z9 (P:j0) (w:w5) (K:m9) (mg:Str->Option b9) (base:Heap) (k:Nat) (x:Str) (ps:List Str) (sp:Sp):Prop where
 ex:∃f fd,mg x=some (.ref f)/\aN K (.ref f)=true/\cO K fd ps []/\K6 P w K mg base (fO P w) k f fd ps sp
def Z9.up(C:Z9 P w K mg base j x ps sp) (h:j<=k):Z9 P w K mg base k x ps sp :=
 let ⟨f,g,a,b,c,d⟩:=C.ex;⟨f,g,a,b,c,d.mono h⟩
def tCx (sp:Sp) (E:XK) (t:TA):TE:=λσ H Q=>t σ H λa c=>sp a c Q E
section
variable {p pos:Pos}
def Q9 (C:Z9 X.prog X.w X.K X.mg X.base k x ps sp) (i:bD k X.A) (j:Gl X x) (m:fN (fO X.prog X.w) X E) (o:PA X (e::es) t)
  (d:(x == ("__debug__":Str))=false:=by decide) (q:B9 (e::es) X.env=(false,eval e X.env)::B9 es X.env:=by rfl) (g:(Z7 pos (B9 es X.env)).any (·.1)=false:=by rfl):
  PE X (.Call (.Name x p) (e::es) [] pos) (tCx sp E t):=by
 obtain⟨f,v,r,s,u,F⟩:=C.ex;have h:=CQ (x:=x) (p:=p) (pos:=pos) F i j r s u .nil m o d q g;have e:GA sp [] E t=tCx sp E t:=by funext σ H Q;show t σ H (λa c=>sp (a++[]) c Q E)=t σ H (λa c=>sp a c Q E);congr 1;funext a c;rw[P4]
 rw[<- e];exact h
end
structure oJ (K:m9) (mg:Str->Option b9) (c:Nat->Addr) (B:Addr):Prop where
 e0:mg "NoUrn"=some (.ref (c 0))
 e1:mg "NoRule"=some (.ref (c 1))
 e2:mg "NoKind"=some (.ref (c 2))
 e3:mg "NoBall"=some (.ref (c 3))
 e4:mg "NoDraws"=some (.ref (c 4))
 e5:mg "NoNumber"=some (.ref (c 5))
 e6:mg "NotEven"=some (.ref (c 6))
 e7:mg "NoCounts"=some (.ref (c 7))
 e8:mg "NotAlike"=some (.ref (c 8))
 e9:mg "BadNote"=some (.ref (c 9))
 eb:mg "UrnError"=some (.ref B)
 xc:∀i,i<10->XC K (c i)
 xi:∀i,i<10->XI K (c i)
 sub:∀i,i<10->Ao K (.ref (c i)) (.ref B)=some true
 bb:pZ K (.ref B) (.type "BaseException")=some true
 one:∀i j,i<10->j<10->dR K (.ref (c i)) (.ref (c j))=some (decide (i=j))
 val:∀i,i<10->dR K (.ref (c i)) (.type "ValueError")=some true
def Sm (i:Int):Prop:=i.natAbs.log2<1920/\(toString i:Str).length<=100
def D1.bigger (I:D1 X pins σ H s):R4<s.heap.objs.size:=by obtain⟨a,⟨o,c,d,e,_⟩,_⟩:=I.nolimit;exact P3 (by decide) (i5 e)
def Sl:TE:=λ_ H Q=>∀p,H p=none->Q (.ref p) (C3 H p (.dK []))
def CP:PE X (.Dict [] [] pos) Sl:=λpins s σ H Q I h =>
 UK ⟨.ref s.heap.objs.size,_,I.laid (a:=s.heap.objs.size) (o:=.dK []) (t':=s.toks) (λ_ _ q=>f6 _ q) (i4 _)
  ⟨A6 _,Zr.mpr (G2 (y7 I.bigger)),[],.nil,Cn s.heap⟩,rfl,h _ (I.hok.fresh (i4 _))⟩
def tX(s:xs.length<=j6) (Pv:Nat->List V->Hp->Prop) (j:Pv 0 [] H) (k:∀i c H,Pv i c H->c.length=i) (o:∀i c H,i<=xs.length->Pv i c H->jc K H a xs) (f:σ0[0]?=some none)
  (hs:∀i c H x,xs[i]?=some x->Pv i c H->te (σ0.set 0 (some x)) H λy H'=>Pv (i+1) (c++[y]) H') (hd:∀c H,Pv xs.length c H->F c H):Cj (Oc K a) σ0 (V5 0) ag te H F:=by
 refine⟨λi m c H=>m=xs.length - i/\i<=xs.length/\Pv i c H,⟨xs.length,by simp,A6 _,j⟩,?_⟩;rintro i m c g ⟨rfl,r,p⟩;have q:=o i c g r p;refine⟨by rw[k i c g p];lia,?_⟩;by_cases d:i<xs.length
 .refine .inr ⟨⟨xs,xs[i],q,by simp[d]⟩,λy H'=>Pv (i+1) (c++[y]) H',λ_=>False,λy H' q=>⟨xs.length - (i+1),by lia,rfl,d,q⟩,λ_ q=>q.elim,λx t y=>?_⟩;obtain⟨rfl,y⟩:=y;exact⟨Wk.set (.inl f),hs i c _ x (y xs q) p⟩
 .have e:i=xs.length:=by lia
  subst e;exact .inl ⟨⟨xs,q,i4 _⟩,hd c g p⟩
section
variable {X:Cx}{es:List Expr}{te:TE}{t:TA}
end
structure Ah (X:Cx):Prop where
 inj:∀x y c,X.env.cells.lookup x=some c->X.env.cells.lookup y=some c->x=y
 has:∀x,(X.env.kindOf x=some .cell ∨ X.env.kindOf x=some .free)->∃c,X.env.cells.lookup x=some c
def PM(h:PE X e t):PE X e (λσ H Q=>Ah X->t σ H Q):=λpins s σ H Q I q=>h pins s σ H Q I (q ⟨I.ok.inj,I.ok.has⟩)
def Ah.closed (Z:Ah X) (a:aZ scope X.env=true):∀x∈scope.names,x.2=.free->∃c,X.env.cells.lookup x.1=some c:=λx d f=>Z.has x.1 (jN a d f)
def Ah.sub(Z:Ah X) (a:aZ scope X.env=true)  (h:(Y0 X.env scope.names []).lookup x=some c):X.env.cells.lookup x=some c:=by
 obtain⟨y,d,e⟩:=fw h;subst e;obtain q|q:=jw (Z.closed a) d
 .cases q
 .exact q
def Ah.cel(Z:Ah X) (a:aZ scope X.env=true)  (h:kj (Y0 X.env scope.names []) b):kj X.env.cells b:=let ⟨x,e⟩:=h;⟨x,Z.sub a e⟩
def Ah.lsc (Z:Ah X) (a:aZ scope X.env=true) (k1:scope.kind=.function) (k2:scope.isCoroutine=false) (k3:scope.isGenerator=false) (k4:∀x∈scope.names,x.2≠.cell):oI (Y0 X.env scope.names []) scope :=
 ⟨k1,k2,k3,k4,λx y c d f=>Z.inj x y c (Z.sub a d) (Z.sub a f),λx h=>by obtain⟨y,g,e⟩:=fw h;subst e;obtain⟨c,i⟩:=gF (env:=X.env) (acc:=[]) g;exact cL i⟩
def Ah.celk (Z:Ah X) (a:aZ scope X.env=true) (d:tZ X σ H Hf):zO (Y0 X.env scope.names []) Hf:=λx c h=>d.cell x c (Z.sub a h)
def Ah.st(Z:Ah X) (f:aZ scope X.env=true) (m:tZ X σ H Hf)  (g:iX scope X.N N ix=true):Ke (Y0 X.env scope.names []) scope N Hf (cu ix σ):=by refine⟨by unfold cu;rw[d8];exact oo g,λj x v o p=>?_⟩;obtain⟨i,q,r⟩:=yL p;obtain⟨y,e1,e2,e3⟩:=oq g q;rw[o] at e1;cases e1;obtain⟨y,k,e⟩:=fw e3;subst e;obtain⟨c,s,u,c1,c2,c3,c4⟩:=m.val i y v e2 r (jN f k rfl);obtain⟨d,hd⟩:=gF (env:=X.env) (acc:=[]) k;obtain⟨t,a⟩:=cL hd;have z:=Z.sub f a;rw[c1] at z;cases z;exact⟨e3,c,s,u,a,c2,c3,c4⟩
def tZ.same (a:tZ X σ H Hf):u7 H Hf:=λb o e=>by rw[a.out b (λz=>by rw[a.none b z] at e;cases e)];exact e
def tZ.inner (a:tZ X σ H Hf) (Z:Ah X) (c:aZ scope X.env=true):u7 H (eS (Y0 X.env scope.names []) Hf):=λb o e=>by
 have nc:¬ kj X.env.cells b:=λz=>by rw[a.none b z] at e;cases e
 rw[R6 λz=>nc (Z.cel c z)];exact a.same b o e
def tZ.back(a:tZ X σ H Hf)  (g:u7 Hf H'):u7 H (eS X.env.cells H'):=λb o e=>by
 have nc:¬ kj X.env.cells b:=λz=>by rw[a.none b z] at e;cases e
 rw[R6 nc];exact g b o (a.same b o e)
def LY (g:u7 (eS cl H) H'):u7 H (Ae cl H H'):=λb o e=>by
 by_cases z:kj cl b
 .rw[Bn z];exact e
 .rw[fj z];exact g b o (by rw[R6 z];exact e)
def Su (P:j0) (w:w5) (K:m9) (mg:Str->Option b9) (base:Heap) (k:Nat) (f c:Addr) (name a:Str) (g:fE) (body:Expr) (scope:O9) (cl:List (Str × Addr)) (j ct:b9) (N:List Str):Sp:=λm H Q E =>
 m=[]/\H f=some (KN (FG name a g body scope cl j c ct))/\DH a H c/\zO cl H/\∃σ,Ke cl scope N H σ /\
  ∀(A:A3) (i:List Env) (s:d9),bD k (A.deeper (rH a scope s.heap.objs.size f (.ref c) cl))->∃t,PE (vG P w K mg base N a scope f (.ref c) cl A i s (eS cl H) (λC d H'=>E C d (Ae cl H H'))) body t/\t σ (eS cl H) (λv H'=>Q v (Ae cl H H'))
def nu.kp{l:Addr} (h:nu q T H) (d:H l=some (.lst xs)) (k:Kp l H H'):nu q T H':=by obtain⟨ps,a,f,g⟩:=h;refine⟨ps,k T _ (λe=>by rw[e,d] at a;cases a) a,f,λpos v e=>?_⟩;obtain⟨c,i,j,t,e1,e2,e3,e4⟩:=g pos v e;exact⟨c,i,j,t,e1,k c _ (λz=>by rw[z,d] at e2;cases e2) e2,e3,e4⟩
def nu.same(h:nu q T H) (g:u7 H H'):nu q T H':=by obtain⟨ps,a,d,f⟩:=h;refine⟨ps,g _ _ a,d,λpos v e=>?_⟩;obtain⟨c,i,j,t,e1,e2,e3,e4⟩:=f pos v e;exact⟨c,i,j,t,e1,g _ _ e2,e3,e4⟩
def yN{p:Pos} (C:Y1 X.prog X.w X.K X.mg X.base k x ps sp) (g:bD k X.A) (i:Gl X x) (j:PA X (e::es) t)
  (a:∀y,X.fn y=true:=by intro y;rfl) (c:(x == ("__debug__":Str))=false:=by decide) (m:B9 (e::es) X.env=(false,eval e X.env)::B9 es X.env:=by rfl) (d:(Z7 pos (B9 es X.env)).any (·.1)=false:=by rfl):
  PE X (.Call (.Name x p) (e::es) [] pos) (λσ H Q=>Ah X->Gz X sp t σ H Q):=by
 obtain⟨f,s,o,q,r,F⟩:=C.ex;exact PM (Ir F g i o q r a j c m d)
section
variable {X:Cx}
end
section
variable {X:Cx}{scope:O9}{N:List Str}{ix:List (Option Nat)}{elt target iter:Expr}{ifs:List Expr}{pos:Pos}{wi:TI}{g:TG}{tc:TT}
end
section
variable {X:Cx}
end
section
variable (P:j0) (w:w5)
end
section
variable {P:j0}{w:w5}{H H':Hp}{h h':Heap}{a:Addr}{o:HO}
end
section
variable {P:j0}{w:w5}{H:Hp}{h h':Heap}{x e:Addr}{o':HO}
end
section
variable {fs fs' ex ex':List Addr}{H H1 H2:Hp}{h h1 h2 h':Heap}{a x e:Addr}{o:HO}
end
section
variable {X:Cx}{pins:List (Addr × Obj)}{σ:List (Option V)}{H H':Hp}{s:d9}{h':Heap}
end
section
variable {X:Cx}
variable {a b:Expr}{ta tb:TE}{pos:Pos}
variable {tA tB':TT}{aW:List Expr}
end
section
variable {X:Cx}{pins:List (Addr × Obj)}{σ:St}{H:Hp}{s:d9}{a:Addr}{xs ys:List V}
end
section
variable {X:Cx}{pins:List (Addr × Obj)}{σ:St}{H:Hp}{s:d9}{E:b9->d9->Prop}
end
section
variable {X:Cx}{st:Stmt}{aW:List Stmt}{t u:TS}{e:Expr}{te:TE}{pos:Pos}
end
section
variable {X:Cx}{pos:Pos}
end
section
variable {X:Cx}{tg:Expr}
end
section
variable {X:Cx}{a b c:Expr}{ta tb tc:TE}{pos:Pos}
end
section
variable {prog:j0}{w:w5}{A:A3}{E:b9->d9->Prop}{s:d9}{K:m9}{x dx C f:Addr}{mA:Str->Option b9}{name:Str}{v:b9}
end
section
variable {P:j0}{w:w5}{H H':Hp}{h h':Heap}{a C dx:Addr}{fs fs':List (Str × V)}
end
section
variable {X:Cx}{pins:List (Addr × Obj)}{σ:St}{H:Hp}{s:d9}{a C dx:Addr}{fs:List (Str × V)}{f:Str}{v:V}{A:A3}{E:b9->d9->Prop}
end
section
variable {X:Cx}{o e value:Expr}{f:Str}{pos pos' tpos:Pos}{ta tv:TE}
end
section
variable {X:Cx}{pins:List (Addr × Obj)}{σ:St}{H:Hp}{s:d9}{A:A3}{E:b9->d9->Prop}{Q:b9->d9->Prop}{c:b9}{b:Bool}
end
section
variable {X:Cx}{e:Expr}{es:List Expr}{te:TE}{t:TA}{pos:Pos}
end
section
variable {X:Cx}{pins:List (Addr × Obj)}{σ:St}{H:Hp}{s s':d9}
end
section
variable {X:Cx}{CX:DJ}{k:Nat}{f C:Addr}{fd:C5}{ps:List Str}{sp:Sp}{dvs:List V}{ds:List b9}{E:XK}{x m:Str}{p pos apos:Pos}{e o:Expr}{es:List Expr}{ta:TE}{t:TA}
end
section
variable {X:Cx}{CX:DJ}{k:Nat}{f C:Addr}{fd:C5}{ps ks:List Str}{sp:Sp}{E:XK}{x m:Str}{p pos apos kpos:Pos}{e o:Expr}{es:List Expr}{kws:List rh}{te ta:TE}{t tk:TA}{nm:Option Str}
variable {g:List b9->List b9->List b9}{gV:List V->List V->List V}
end
section
variable {X:Cx}{x:Str}{p pos:Pos}{e:Expr}{es:List Expr}{t:TA}{id T:String}{r:List V->Hp->VK->Prop}
end
section
variable {κ:Type} [DecidableEq κ]
def fI (kvs:List (κ × V)) (k:κ):Option V:=(kvs.find? λa=>decide (a.1=k)).map (·.2)
def aK (kvs:List (κ × V)) (k:κ) (v:V):List (κ × V):=
 if (kvs.any λa=>decide (a.1=k))=true then kvs.map (λa=>if a.1=k then (a.1,v) else a) else kvs++[(k,v)]
def jm{k:κ} (e:p.1=k):fI (p::r) k=some p.2:=by simp[fI,dE,e]
def gJ{k:κ} (e:¬ p.1=k):fI (p::r) k=fI r k:=by simp[fI,dE,e]
theorem rO (k:κ):∀a:List (κ × V),(a.any λc=>decide (c.1=k))=(fI a k).isSome
 | []=>rfl
 | p::r=>by
  rw[bS];by_cases e:p.1=k
  .simp only[jm e,ZA e,Uy,FM]
  .rw[gJ e,Zz e,Ab];exact rO k r
def kU (kvs:List (κ × V)) (k:κ) (v:V):(aK kvs k v).length<=kvs.length+1:=by
 unfold aK;split
 .rw[d8];lia
 .rw[y9,n5,aF];lia
variable {kvs:List (κ × V)}
def HW(v:V) (h:fI kvs k=none):aK kvs k v=kvs++[(k,v)]:=by unfold aK;rw[rO,h];exact ZC (by decide)
def kC.isSome_eq(r:kC o u):o.isSome=u.isSome:=by
 cases o with
 | none=>cases u with
  | none=>rfl
  | some _=>exact(show False from r).elim
 | some _=>cases u with
  | none=>exact(show False from r).elim
  | some _=>rfl
theorem kC.getD(r:kC o u) (a:K3 d d'):K3 (o.getD d) (u.getD d'):=by
 cases o with
 | none=>cases u with
  | none=>exact a
  | some _=>exact(show False from r).elim
 | some _=>cases u with
  | none=>exact(show False from r).elim
  | some _=>exact r
def KV.val (r:KV kvs vs) (k:κ):kC (fI kvs k) (vR vs k):=by
 unfold KV at r;induction r with
 | nil=>exact ak
 | @cons p q ps a h t f =>
  obtain⟨d,g⟩:=h;by_cases e:p.1=k
  .have c:q.1=k:=d.symm.trans e;have b:vR (q::a) k=some q.2:=by simp[vR,dE,c]
   rw[jm e,b];exact g
  .have c:¬ q.1=k:=λz=>e (d.trans z);have b:vR (q::a) k=vR a k:=by simp[vR,dE,c]
   rw[gJ e,b];exact f
theorem KV.any(r:KV kvs vs) (k:κ):(kvs.any λa=>decide (a.1=k))=vs.any λa=>decide (a.1=k):=by
 unfold KV at r;induction r with
 | nil=>rfl
 | cons h t c=>rw[bS,bS,c,h.1]
def KV.repl(r:KV kvs vs) (k:κ)  (d:K3 y u):
  KV (kvs.map λa=>if a.1=k then (a.1,y) else a) (vs.map λa=>if a.1=k then (a.1,u) else a):=by
 unfold KV at r ⊢;induction r with
 | nil=>exact .nil
 | @cons p q ps i h t f =>
  rw[t8,t8];refine .cons ?_ f;obtain⟨c,g⟩:=h;by_cases e:p.1=k
  .rw[ZB e,ZB (c.symm.trans e)];exact⟨c,d⟩
  .rw[ZC e,ZC (λz=>e (c.trans z))];exact⟨c,g⟩
def KV.put(r:KV kvs vs) (k:κ)  (a:K3 y u):KV (aK kvs k y) (stored vs k u):=by
 unfold aK stored;rw[r.any k];by_cases e:(vs.any λc=>decide (c.1=k))=true
 .rw[ZB e,ZB e];exact r.repl k a
 .rw[ZC e,ZC e];exact RW r ⟨rfl,a⟩
theorem KV.length(r:KV kvs vs):kvs.length=vs.length:=fG r
end
def tH(r:K3 (kV k) u):(P9 P w).is k u=true:=by
 cases k with
 | inl i=>obtain⟨t,e⟩:=(show ∃t,u=nv i t from r);subst e;exact yV P w i t
 | inr x=>obtain⟨t,e⟩:=(show ∃t,u=cI x t from r);subst e;exact yU P w x t
theorem vC {P:j0}{w:w5}:∀{a:List O0}{us:List b9},J9 (a.map kV) us->ItemsAre (P9 P w) a us
 | [],_,r=>by rw[rg] at r;cases r;exact .nil
 | k::a,_,r=>by
  rw[t8] at r;cases r with
  | cons h t=>exact .cons (tH h) (vC t)
abbrev KT (H:Hp):List (List O0 × V)->List (List O0 × Addr × b9)->Prop:=DW λp q=>p.1=q.1/\H q.2.1=some (.tup (p.1.map kV))/\K3 p.2 q.2.2
def KT.val (r:KT H kvs xs) (k:List O0):kC (fI kvs k) ((DT xs k).map (·.2)):=by
 induction r with
 | nil=>exact ak
 | @cons p q ps a h t f =>
  obtain⟨d,_,g⟩:=h;by_cases e:p.1=k
  .have c:q.1=k:=d.symm.trans e;have b:DT (q::a) k=some q.2:=by simp[DT,dE,c]
   rw[jm e,b];exact g
  .have c:¬ q.1=k:=λz=>e (d.trans z);have b:DT (q::a) k=DT a k:=by simp[DT,dE,c]
   rw[gJ e,b];exact f
def KT.repl (r:KT H kvs xs) (k:List O0) (f:K3 y u):
  KT H (kvs.map λc=>if c.1=k then (c.1,y) else c) (xs.map (putAt k u)):=by
 induction r with
 | nil=>exact .nil
 | @cons p q ps j h t g =>
  rw[t8,t8];refine .cons ?_ g;obtain⟨a,d,i⟩:=h;unfold putAt;by_cases e:p.1=k
  .rw[ZB e,ZB (a.symm.trans e)];exact⟨a,d,f⟩
  .rw[ZC e,ZC (λz=>e (a.trans z))];exact⟨a,d,i⟩
def KT.put (r:KT H kvs xs) (k:List O0) (c:H b=some (.tup (k.map kV))) (a:K3 y u):
  KT H (aK kvs k y) (storedH xs k b u):=by
 have e:(kvs.any λd=>decide (d.1=k))=(DT xs k).isSome:=by rw[rO,(r.val k).isSome_eq,jj]
 unfold aK storedH;rw[e];by_cases q:(DT xs k).isSome=true
 .rw[ZB q,ZB q];exact r.repl k a
 .rw[ZC q,ZC q];exact RW r ⟨rfl,c,a⟩
def KT.keeps (r:KT H kvs xs) (c:∀b a,H b=some (.tup a)->H' b=some (.tup a)):KT H' kvs xs :=
 Paired.mapP r λ_ _ z=>⟨z.1,c _ _ z.2.1,z.2.2⟩
def NJ {u:HO} (ok:dQ P w H h) (e:Rd H a u):O4 P w H h a u:=e.ok ok
def qD {kvs:List (O0 × V)} (ok:dQ P w H h) (e:Rd H a (.dK kvs)):kvs.length<=j6/\(a == R4)=false/\∃c,KV kvs c/\h.DictOf (P9 P w) a c :=
 show O4 P w H h a (.dK kvs) from NJ ok e
def NV {kvs:List (O0 × V)} (ok:dQ P w H h) (e:H a=some (.dK kvs)):kvs.length<=j6/\(a == R4)=false/\∃c,KV kvs c/\h.DictOf (P9 P w) a c:=qD ok (.inl e)
def mU(ok:dQ P w H h) (e:H a=some (.tup (c.map kV))):(dw (P9 P w)).is h c a:=by
 obtain⟨_,d,r,o,f,g,n,i⟩:=(show O4 P w H h a (.tup (c.map kV)) from ok a _ e)
 exact⟨o,d.toArray,n,f,g,i,by simpa using vC r⟩
def tV(ok:dQ P w H h) (e:Rd H a (.dT kvs)):kvs.length<=j6/\(a == R4)=false /\
  ∃xs,KT H kvs xs/\h.DictOfH (dw (P9 P w)) a xs:=by
 obtain⟨z,y,xs,r,o,f,g,i,j,k,s,v⟩:=(show O4 P w H h a (.dT kvs) from NJ ok e)
 refine⟨z,y,xs,r,o,f,g,i,j,k,s,λx c=>?_,v⟩;have all:∀{l:List (List O0 × V)}{m:List (List O0 × Addr × b9)},KT H l m->∀x∈m,(dw (P9 P w)).is h x.1 x.2.1:=by
  intro l m q;induction q with
  | nil=>intro x c;exact nomatch c
  | @cons p q ps I d t D =>
   intro x c;obtain e|c:=C7.mp c
   .subst e;exact mU ok (by rw[<- d.1];exact d.2.1)
   .exact D x c
 exact all r x c
def NU(ok:dQ P w H h) (e:H a=some (.dT kvs)):kvs.length<=j6/\(a == R4)=false /\
  ∃xs,KT H kvs xs/\h.DictOfH (dw (P9 P w)) a xs:=tV ok (.inl e)
def jz (H:Hp) (a:Addr) (y:V) (r:Option V):Prop :=
 (∃kvs k,Rd H a (.dK kvs)/\y=kV k/\r=fI kvs k) ∨ ∃kvs k b,Rd H a (.dT kvs)/\y=.ref b/\H b=some (.tup (k.map kV))/\r=fI kvs k
def uQ (H:Hp) (a:Addr) (y v:V) (H':Hp):Prop :=
 (∃kvs k,H a=some (.dK kvs)/\y=kV k/\kvs.length<j6/\H'=C3 H a (.dK (aK kvs k v))) ∨
 ∃kvs k b,H a=some (.dT kvs)/\y=.ref b/\H b=some (.tup (k.map kV))/\kvs.length<j6/\H'=C3 H a (.dT (aK kvs k v))
def jz.k{kvs:List (O0 × V)}{k:O0} (e:H a=some (.dK kvs)):jz H a (kV k) (fI kvs k):=.inl ⟨kvs,k,.inl e,rfl,rfl⟩
def jz.t{k:List O0} (e:H a=some (.dT kvs)) (eb:H b=some (.tup (k.map kV))):jz H a (.ref b) (fI kvs k):=.inr ⟨kvs,k,b,.inl e,rfl,eb,rfl⟩
def uQ.k{a:Addr}{kvs:List (O0 × V)}{k:O0}{v:V} (e:H a=some (.dK kvs)) (c:kvs.length<j6):uQ H a (kV k) v (C3 H a (.dK (aK kvs k v))):=.inl ⟨kvs,k,e,rfl,c,rfl⟩
def uQ.t {a:Addr}{k:List O0}{v:V} (e:H a=some (.dT kvs)) (eb:H b=some (.tup (k.map kV))) (c:kvs.length<j6):
  uQ H a (.ref b) v (C3 H a (.dT (aK kvs k v))):=.inr ⟨kvs,k,b,e,rfl,eb,c,rfl⟩
def D1.big (I:D1 X pins σ H s):R4<s.heap.objs.size:=by have h:A1<s.heap.objs.size:=(I.mod.glob.keeps I.bk).lt;exact UT (by decide) h
def Fd {Q:b9->d9->Prop} (D:A.units+1<fW) (I:D1 X pins σ H s) (g:jz H a y (some v)) (q:K3 y u) (h:∀f t,D1 X pins σ H t->K3 v f->Q f t):
  j8 (n6 X.prog X.w) A (Ck (.ref a) u) Q E s:=by
 obtain⟨kvs,k,e,i,l⟩|⟨kvs,k,b,e,i,eb,l⟩:=g
 .subst i;obtain⟨z,hd,J,c,dd⟩:=qD I.hok e;obtain⟨f,j,d⟩:=kC.some_of (v:=v) (o:=vR J k) (by rw[l];exact c.val k);exact UJ (tH q) dd.mapOf j (h f _ (I.tok _) d)
 .subst i;cases (show u=r6 b from q);obtain⟨z,hd,xs,c,dd⟩:=tV I.hok e;obtain⟨f,j,d⟩:=kC.some_of (v:=v) (o:=(DT xs k).map (·.2)) (by rw[l];exact c.val k);obtain⟨p,N,m⟩:=Zt.mp j;refine wpAny_getItem_heap (fm D) (mU I.hok eb) dd N ?_;rw[m];exact h f _ (I.tok _) d
def MR {Q:b9->d9->Prop} (j:A.units+1<fW) (I:D1 X pins σ H s) (g:jz H a y o) (f:K3 y u) (h:∀i,D1 X pins σ H i->Q (.bool (!o.isSome)) i):
  j8 (n6 X.prog X.w) A (P7 .NotIn u (.ref a)) Q E s:=by
 obtain⟨kvs,k,e,d,l⟩|⟨kvs,k,b,e,d,eb,l⟩:=g
 .subst d;obtain⟨z,hd,m,c,dd⟩:=qD I.hok e;refine wpAny_notIn_of (tH f) hd dd.mapOf ?_;rw[<- (c.val k).isSome_eq,<- l];exact h _ (I.tok _)
 .subst d;cases (show u=r6 b from f);obtain⟨z,hd,xs,c,dd⟩:=tV I.hok e;refine wpAny_notIn_heap (fm j) (mU I.hok eb) hd dd ?_;have q:=(c.val k).isSome_eq;rw[jj] at q;rw[<- q,<- l];exact h _ (I.tok _)
def rG {h':Heap}{t':Nat}{ob:HO} (I:D1 X pins σ H s) (c:TX (H a)) (hs:F5 a s.heap h') (d:∃q,h'.get? a=some q) (new:O4 X.prog X.w (C3 H a ob) h' a ob):
  D1 X pins σ (C3 H a ob) { s with heap:=h',toks:=t' } :=
 I.write (x:=a) (e:=a) c (.inl rfl) (λb q f z=>(hs.2 b f).trans z) d new
def JO {P:j0}{w:w5}{H':Hp}{h':Heap}{kvs:List (O0 × V)}{vs:List (O0 × b9)} (z:kvs.length<=j6) (hd:(a == R4)=false) (c:KV kvs vs) (dd:h'.DictOf (P9 P w) a vs):
  O4 P w H' h' a (.dK kvs):=⟨z,hd,vs,c,dd⟩
def Fc {H':Hp}{Q:Unit->d9->Prop} (R:A.units+1<fW) (I:D1 X pins σ H s) (g:uQ H a y v H') (J:K3 y u) (rv:K3 v r) (h:∀N,D1 X pins σ H' N->Q () N):
  j8 (n6 X.prog X.w) A (setItem (.ref a) u r) Q E s:=by
 obtain⟨kvs,k,e,j,l,m⟩|⟨kvs,k,b,e,j,eb,l,m⟩:=g
 .subst j m;obtain⟨z,hd,S,d,dd⟩:=NV I.hok e;have p:S.length<=j6:=by rw[<- d.length];exact z
  have t:(aK kvs k v).length<=j6:=by have:=kU kvs k v;lia
  refine wpAny_setItem_pairs (hsz:=p) (tH J) dd λh' f D=>h _ ?_;have U:∃q,h'.get? a=some q:=let ⟨q,_,_,i,_⟩:=f;⟨q,i⟩
  exact rG I (by rw[e];exact ak) D U (JO t hd (d.put k rv) f)
 .subst j m;cases (show u=r6 b from J);obtain⟨z,hd,xs,d,dd⟩:=NU I.hok e;have p:xs.length<=j6:=by rw[<- fG d];exact z
  have t:(aK kvs k v).length<=j6:=by have:=kU kvs k v;lia
  refine wpAny_setItem_heap (hsz:=p) (fm R) (mU I.hok eb) dd λh' f D=>h _ ?_;obtain⟨q,V,Y,i,Z,h3,h4,_,h5⟩:=f;refine rG I (by rw[e];exact ak) D ⟨q,i⟩ ⟨t,hd,_,(d.put k eb rv).keeps λc ys O=>?_,q,V,Y,i,Z,h3,h4,h5⟩;rw[t9 (jt O e (λz=>nomatch z))];exact O
def TH {Q:b9->d9->Prop} (I:D1 X pins σ H s) (e:Rd H a (.dK kvs)) (h:∀t d,D1 X pins σ H d->Q (.int kvs.length t) d):j8 (n6 X.prog X.w) A (call (.builtin "len") [.ref a]) Q E s:=by obtain⟨z,hd,f,c,dd⟩:=qD I.hok e;refine call_len_dict hd dd (by rw[<- c.length];rw[R7] at z;lia) ?_;rw[<- c.length];exact h _ _ (I.tok _)
def QX (i:Expr):Prop:=∀a c,zR i false a c=operate [a,c] (Ck a c)
def Cv {prog:j0}{s:d9}{value slice:Expr}{T id:String}{Q:b9->d9->Prop}
  (k:typeLookup (.type T) "__getitem__"=pure (some (.builtin id))) (hs:QX slice)
  (h:j8 (n6 prog w) A (eval value env) (λo d=>j8 (n6 prog w) A (eval slice env) (λi a=>a.TypeIs o T/\j8 (n6 prog w) A (Ck o i) Q E a) E d) E s):
  j8 (n6 prog w) A (eval (.Subscript value slice pos) env) Q E s:=by
 refine RT (C4 h (λo d g=>C4 g (λi a c=>?_) λ_ _ x=>x) λ_ _ x=>x);obtain⟨hT,c⟩:=c;unfold FU;refine b7 ?_;rw[getitemInPython_of_ne hT.not_modules];refine b7 (wpAny_specialOf hT k ?_);have fin:j8 (n6 prog w) A (zR slice false o i) (λr f=>j8 (n6 prog w) A (letTemporaryGo value o r >>= λ_=>pure r) Q E f) E a:=by rw[hs o i];exact wpAny_operating (C4 c (λr f j=>b7 (wpAny_letTemporaryGo (f9 j))) λ_ _ x=>x)
 first
  | exact f9 (b7 fin)
  | exact b7 (f9 (b7 fin))
  | exact b7 fin
def zo {s:d9}{a:Addr}{o:Option V} (I:D1 X pins σ H s) (g:jz H a y o):s.TypeIs (.ref a) "dict":=by
 obtain⟨kvs,k,e,_,_⟩|⟨kvs,k,b,e,_,_,_⟩:=g
 .obtain⟨_,_,c,_,dd⟩:=qD I.hok e;exact dd.typeIs
 .obtain⟨_,_,xs,_,dd⟩:=tV I.hok e;exact dd.typeIs
def Sq (d ty:TE):TE:=λσ H Q=>d σ H λx f=>ty σ f λy c=>∃a v,x=.ref a/\jz c a y (some v)/\Q v c
def Lw (ty d:TE):TE:=λσ H Q=>ty σ H λy f=>d σ f λx c=>∃a o,x=.ref a/\jz c a y o/\Q (.bl (!o.isSome)) c
def SF (d ty f:TE):TS:=λD σ H=>f σ H λv g=>d σ g λx i=>ty σ i λy j=>∃a c,x=.ref a/\uQ j a y v c/\D.nx σ c
def wX (f:X.A.units+1<fW) (j:PE X o td) (k:PE X i ty) (hs:QX i):PE X (.Subscript o i pos) (Sq td ty):=by intro pins s σ H Q I h;refine Cv PySem.F.slot_dict_getitem.lookup hs (S6 (j pins s σ H _ I h) λu m ⟨x,p,q,r,t⟩=>S6 (k pins m σ p _ q t) λR S ⟨y,z,d,D,a,v,J,g,N⟩=>?_);subst J;obtain rfl:u=r6 a:=r;exact⟨zo d g,Fd f d g D λU V O c=>⟨v,z,O,c,N⟩⟩
def vn (c:X.A.units+1<fW) (d:PE X i ty) (f:PE X o td):PC X .NotIn i o (Lw ty td):=by intro pins s σ H Q I h;refine S6 (d pins s σ H _ I h) λO j ⟨y,k,m,p,q⟩=>S6 (f pins j σ k _ m q) λu R ⟨x,r,t,v,a,z,D,g,J⟩=>?_;subst D;obtain rfl:u=r6 a:=v;exact MR c t g p λS N=>⟨.bl (!z.isSome),r,N,rfl,J⟩
def rn (c:X.A.units+1<fW) (d:PE X o td) (f:PE X i ty) (j:PE X value tv) (hs:mz value (some (.Subscript o i pos')) pos.line X.env=pure false):
  PS X (.Assign [.Subscript o i pos'] value pos) (SF td ty tv):=by
 intro pins s σ H D I h;refine wpAny_Assign_Subscript (S6 (j pins s σ H _ I h) λr k ⟨v,m,p,q,t⟩=>S6 (d pins k σ m _ p t) λu z ⟨x,J,N,O,R⟩=>S6 (f pins z σ J _ N R) λiv s3 ⟨y,H3,S,U,a,V,Y,g,Z⟩=>?_) hs;subst Y;obtain rfl:u=r6 a:=O;exact Fc c S g U q λs4 I4=>⟨σ,V,I4,Z⟩
def JQ (h:Heap) (a:R4<h.objs.size):O4 P w H (h.push { cls:=.type "dict",data:=.dict #[] }) h.objs.size (.dK []):=
 ⟨A6 _,Zr.mpr (G2 (y7 a)),[],.nil,Cn h⟩
def zk (h:Heap) (a:R4<h.objs.size):O4 P w H (h.push { cls:=.type "dict",data:=.dict #[] }) h.objs.size (.dT []):=
 ⟨A6 _,Zr.mpr (G2 (y7 a)),[],.nil,_,#[],0,j7 _ rfl,⟨rfl,rfl,rfl⟩,rfl,rfl,Rp⟩
def OJ:TE:=λ_ H Q=>∀p,H p=none->Q (.ref p) (C3 H p (.dT []))
def Il:PE X (.Dict [] [] pos) OJ:=λpins s σ H Q I h =>
 UK ⟨.ref s.heap.objs.size,_,I.laid (a:=s.heap.objs.size) (o:=.dT []) (t':=s.toks) (λ_ _ q=>f6 _ q) (i4 _) (zk s.heap I.big),rfl,h _ (I.hok.fresh (i4 _))⟩
structure M1 (X:Cx) (o:Expr) (m:Str) (apos:Pos) (e:Expr) (cpos:Pos):Prop where
 base:eI o m X.env (eval o X.env)=eval o X.env
 few:((Z7 cpos (B9 [e] X.env)).all (λx=>!x.1)&&(vU cpos (lC [] X.env)).all (λx=>x.1.isSome)
  && decide (([e]:List Expr).length+([]:List rh).length+(if ([]:List rh).isEmpty then 0 else 1)<30))=true
 line:(apos.endLine == cpos.line)=true
 trees:Z7 cpos (B9 [e] X.env)=[(false,eval e X.env)]
structure M2 (X:Cx) (o:Expr) (m:Str) (apos:Pos) (e f:Expr) (cpos:Pos):Prop where
 base:eI o m X.env (eval o X.env)=eval o X.env
 few:((Z7 cpos (B9 [e,f] X.env)).all (λx=>!x.1)&&(vU cpos (lC [] X.env)).all (λx=>x.1.isSome)
  && decide (([e,f]:List Expr).length+([]:List rh).length+(if ([]:List rh).isEmpty then 0 else 1)<30))=true
 line:(apos.endLine == cpos.line)=true
 trees:Z7 cpos (B9 [e,f] X.env)=[(false,eval e X.env),(false,eval f X.env)]
def IsD (H:Hp) (a:Addr):Prop:=(∃kvs,Rd H a (.dK kvs)) ∨ ∃kvs,Rd H a (.dT kvs)
def Jx {s:d9}{a:Addr} (I:D1 X pins σ H s) (d:IsD H a):
  s.TypeIs (.ref a) "dict"/\(∀b,r6 a=.ref b->∃ob,s.heap.get? b=some ob/\ob.dict=none)/\(a == R4)=false:=by
 obtain⟨kvs,e⟩|⟨kvs,e⟩:=d
 .obtain⟨_,hd,g,_,dd⟩:=qD I.hok e;refine⟨dd.typeIs,λb q=>?_,hd⟩;cases q;obtain⟨ob,_,_,c,f,_⟩:=dd;exact⟨ob,c,f.2.1⟩
 .obtain⟨_,hd,xs,_,dd⟩:=tV I.hok e;refine⟨dd.typeIs,λb q=>?_,hd⟩;cases q;obtain⟨ob,_,_,c,f,_⟩:=dd;exact⟨ob,c,f.2.1⟩
def QM {Q:b9->d9->Prop} (p:A.units+1<fW) (I:D1 X pins σ H s) (g:jz H a y o) (i:K3 y u) (h:∀j m,D1 X pins σ H m->K3 (o.getD .non) j->Q j m):
  j8 (n6 X.prog X.w) A (call (.builtin "dict.get") [.ref a,u]) Q E s:=by
 obtain⟨kvs,k,e,f,l⟩|⟨kvs,k,b,e,f,eb,l⟩:=g
 .subst f;obtain⟨z,hd,q,c,dd⟩:=qD I.hok e;refine nP aa dd.typeIs dS (xM _ _) (meets_dict_get (P9 X.prog X.w) a (tH i) hd) ⟨_,dd.mapOf,h _ _ (I.tok _) ?_⟩;rw[l];exact(c.val k).getD rfl
 .subst f;cases (show u=r6 b from i);obtain⟨z,hd,xs,c,dd⟩:=tV I.hok e;refine nP aa dd.typeIs dS (xM _ _) (meetsH_dict_get (dw (P9 X.prog X.w)) a b hd) ⟨fm p,k,xs,mU I.hok eb,dd,h _ _ (I.tok _) ?_⟩;rw[l];exact(c.val k).getD rfl
def QL {Q:b9->d9->Prop} (q:A.units+1<fW) (I:D1 X pins σ H s) (g:jz H a y o) (i:K3 y u) (j:K3 d r) (h:∀m p,D1 X pins σ H p->K3 (o.getD d) m->Q m p):
  j8 (n6 X.prog X.w) A (call (.builtin "dict.get") [.ref a,u,r]) Q E s:=by
 obtain⟨kvs,k,e,f,l⟩|⟨kvs,k,b,e,f,eb,l⟩:=g
 .subst f;obtain⟨z,hd,t,c,dd⟩:=qD I.hok e;refine nP aa dd.typeIs dS (xK _ _ _) (meets_dict_get_default (P9 X.prog X.w) a (tH i) hd r) ⟨_,dd.mapOf,h _ _ (I.tok _) ?_⟩;rw[l];exact(c.val k).getD j
 .subst f;cases (show u=r6 b from i);obtain⟨z,hd,xs,c,dd⟩:=tV I.hok e;refine nP aa dd.typeIs dS (xK _ _ _) (meetsH_dict_get_default (dw (P9 X.prog X.w)) a b hd r) ⟨fm q,k,xs,mU I.hok eb,dd,h _ _ (I.tok _) ?_⟩;rw[l];exact(c.val k).getD j
def OM (f ty:TE):TE:=λσ H Q=>f σ H λx c=>∃a,x=.ref a/\IsD c a/\ty σ c λy d=>∃o,jz d a y o/\Q (o.getD .non) d
def OL (f ty tx:TE):TE:=λσ H Q=>f σ H λx c=>∃a,x=.ref a/\IsD c a/\ty σ c λy g=>tx σ g λz d=>∃o,jz d a y o/\Q (o.getD z) d
def Io (j:X.A.units+1<fW) (k:PE X o td) (p:PE X e ty) (m:M1 X o "get" apos e cpos):PE X (.Call (.Attribute o "get" apos) [e] [] cpos) (OM td ty):=by intro pins s σ H Q I h;refine Uj m.base m.few m.line du aa zX (S6 (k pins s σ H _ I h) λu q ⟨x,r,i,t,a,v,d,z⟩=>?_);subst v;obtain rfl:u=r6 a:=t;obtain⟨D,J,_⟩:=Jx i d;refine⟨D,J,?_⟩;rw[m.trees];refine bB rfl (gh (iQ (S6 (p pins q σ r _ i z) λV Y ⟨y,N,O,R,Z,g,S⟩=>qN ?_)));exact QM j O g R λw' s3 U c=>⟨_,N,U,c,S⟩
def Im (j:X.A.units+1<fW) (k:PE X o td) (p:PE X e ty) (q:PE X f tx) (m:M2 X o "get" apos e f cpos):PE X (.Call (.Attribute o "get" apos) [e,f] [] cpos) (OL td ty tx):=by
 intro pins s σ H Q I h;refine Uj m.base m.few m.line du aa zX (S6 (k pins s σ H _ I h) λu r ⟨x,t,i,v,a,D,d,J⟩=>?_);subst D;obtain rfl:u=r6 a:=v;obtain⟨N,O,_⟩:=Jx i d;refine⟨N,O,?_⟩;rw[m.trees];refine bB rfl (gh (iQ (S6 (p pins r σ t _ i J) λiv R ⟨y,S,U,V,Y⟩ =>
  iQ (S6 (q pins R σ S _ U Y) λfv s3 ⟨z,Z,I3,rz,ov,g,q3⟩=>qN ?_))))
 exact QL j I3 g V rz λw' s4 I4 c=>⟨_,Z,I4,c,q3⟩
section
variable {X:Cx}{pins:List (Addr × Obj)}{σ:St}{H:Hp}{s:d9}{a:Addr}{kvs:List (O0 × V)}{A:A3}{E:b9->d9->Prop}
end
section
variable {X:Cx}{pins:List (Addr × Obj)}{σ:St}{H:Hp}{s:d9}{a:Addr}{y:V}{u:b9}{A:A3}{E:b9->d9->Prop}
end
end L2
namespace Att
open PySem PySem.W PySem.Calls PyProof.Rows
section
variable {prog:j0}{w:w5}{A:A3}{E:b9->d9->Prop}{s:d9}{K:Frag}
end
end Att
namespace L2
open PySem PySem.Spec PyProof.Rows
section
variable {P:j0}{w:w5}{K:m9}{mg:Str->Option b9}{base:Heap}
end
def Fm:cN X (.builtin "len") (λc H Q=>∃a b,c=[V.ref a]/\H a=some (.dK b)/\Q (.int b.length) H):=by intro d s i H c j Q I r h;obtain⟨a,b,rfl,e,q⟩:=h;obtain⟨u,rfl,f⟩:=kg r;cases f;exact TH I (.inl e) λt k g=>⟨.int b.length,H,g,⟨t,rfl⟩,q⟩
section
variable {κ:Type} [DecidableEq κ]
end
section
variable {prog:j0}{w:w5}{A:A3}{E:b9->d9->Prop}{s:d9}
abbrev JM (it:Addr):Obj:={ cls:=.type "enumerate",data:=.fields #[.none,.bool false,.ref it,N6 0,.none,.none] }
def Fb (t:Addr) (xs:Array b9):
  Meets (iw.«enumerate.__new__» ⟨[.type "enumerate",.ref t],[]⟩) (λ_ R s=>s.heap.IsTuple t xs/\R (.ok (.ret (.ref (s.heap.push (Sg t)).objs.size))) { s with heap:=(s.heap.push (Sg t)).push (JM s.heap.objs.size) }):=
 .of_wp λprog w A R s h=>by
  obtain⟨i,g,d,j,os⟩:=s;obtain⟨e,h⟩:=h;have f:=sub_enumerate;have b:Uw (Cm ⟨i,g,d,j,os⟩) t xs:=e;obtain⟨k,a,_⟩:=id e
  wp_walk using cP a
  refine wpAny_stack_any λst=>f9 ?_;split
  .rename_i c _ _ _ _ _;cases (c == iP "enumerate")
   .wp_walk using cP a,cj b
    exact⟨_,rfl,h⟩
   .wp_walk using cP a,cj b
    exact⟨_,rfl,h⟩
  .wp_walk using cP a,cj b
   exact⟨_,rfl,h⟩
structure UH (h:Heap) (e it t:Addr) (k:Nat):Prop where
 en:∃old,Lp h e it k old
 it:h.IsTupleIter it t k
variable {xs:Array b9}
def JN {e it t:Addr}{i:Nat}{x:b9}{Q:Option b9->d9->Prop} (Z:UH s.heap e it t i) (hl:s.heap.IsTuple t xs) (hx:xs[i]?=some x) (a:e≠it)
  (hQ:∀C,UW C e it ((i:Int)+1) x s.heap.objs.size->C.IsTupleIter it t (i+1)->C.get? s.heap.objs.size=some { cls:=.type "tuple",data:=.seq #[.int i s.toks,x] }->C.objs.size=s.heap.objs.size+1 ->
   (∀b o,b ∉ [e,it]->s.heap.get? b=some o->C.get? b=some o)->Q (some (.ref s.heap.objs.size)) { s with heap:=C,toks:=s.toks+1 }):j8 (n6 prog w) A (Y3 (.ref e)) Q E s:=by
 obtain⟨⟨old,S⟩,V⟩:=Z;obtain⟨f,g,d,c,os⟩:=s;have hT:fF ⟨f,g,d,c,os⟩ (.ref e) "enumerate":=⟨_,S,rfl⟩
 unfold Y3;refine b7 (S8 (F6 (name:=K9 "__next__") hT gD (G1 gD hT Gh ?_ (FQ _))));show j8 _ _ (uh (.ref e) 2 >>= _) _ _ _;refine b7 (D5 S rfl (x:=.ref it) rfl ?_);refine b7 (sO V hl hx λp q D=>?_);replace D:F5 it f p:=D
 have j:Lp p e it i old:=(D.2 e a).trans S;show j8 _ _ (uh (.ref e) 3 >>= _) _ _ ⟨p,g,d,c,os⟩;refine b7 (D5 j rfl (x:=N6 i) rfl ?_);show j8 _ _ (uh (.ref e) 4 >>= _) _ _ ⟨p,g,d,c,os⟩;refine b7 (D5 j rfl (x:=.none) rfl ?_);show j8 _ _ (mkInt i >>= _) _ _ ⟨p,g,d,c,os⟩;refine b7 (wpAny_mkInt ?_);show j8 _ _ (iO (.ref e) 3 (N6 ((i:Int)+1)) >>= _) _ _ ⟨p,g,d,c+1,os⟩;refine b7 (F0 j (by simp) λN k H=>?_);replace H:F5 e p N:=H
 replace k:Lp N e it ((i:Int)+1) old:=k
 show j8 _ _ (iO (.ref e) 4 .none >>= _) _ _ ⟨N,g,d,c+1,os⟩;refine b7 (F0 k (by simp) λu l I=>?_);replace I:F5 e N u:=I
 replace l:Lp u e it ((i:Int)+1) old:=l
 show j8 _ _ (DN [.int i c,x] >>= _) _ _ ⟨u,g,d,c+1,os⟩;refine b7 (fU ?_);have m:Lp (u.push { cls:=.type "tuple",data:=.seq #[.int i c,x] }) e it ((i:Int)+1) old:=f6 _ l;generalize h:u.push { cls:=.type "tuple",data:=.seq #[.int i c,x] }=J at m;have n:u.objs.size=f.objs.size:=by rw[I.1,H.1,D.1]
 have v:e<f.objs.size:=i5 S;have X:J.get? f.objs.size=some { cls:=.type "tuple",data:=.seq #[.int i c,x] }:=by rw[<- h,<- n];exact j7 _ rfl
 have Y:J.objs.size=f.objs.size+1:=by rw[<- h,D7,n]
 have a0:∀b o,b≠e->b≠it->f.get? b=some o->J.get? b=some o:=λb o O a1 r=>by rw[<- h];exact f6 _ (I.extBut b o O (H.extBut b o O (D.extBut b o a1 r)))
 have P:J.IsTupleIter it t (i+1):=by rw[<- h];exact q.at λo R=>f6 _ (I.extBut _ o (G2 a) (H.extBut _ o (G2 a) R))
 show j8 _ _ (M0 (.ref e) >>= _) _ _ ⟨J,g,d,c+1,os⟩;rw[n];clear h l I k H j D q n u N p;refine b7 ?_;unfold M0;refine b7 (D5 m rfl (x:=.none) rfl (f9 ?_));simp only[if_true];refine b7 (X6 ?_);refine b7 (D5 m rfl (x:=old) rfl ?_);refine b7 (F0 m (by simp) λT y K=>?_);replace K:F5 e J T:=K
 replace y:Lp T e it ((i:Int)+1) x:=y
 show j8 _ _ (V4 (.ref e) (.ref f.objs.size) >>= _) _ _ ⟨T,g,d,c+1,os⟩;refine b7 ?_;unfold V4;refine b7 (F0 y (by simp) λh6 z L=>?_);replace L:F5 e T h6:=L
 replace z:UW h6 e it ((i:Int)+1) x f.objs.size:=z
 refine F0 z (by simp) λU B M=>?_;replace M:F5 e h6 U:=M
 replace B:UW U e it ((i:Int)+1) x f.objs.size:=B
 refine b7 (zQ (f9 ⟨_,rfl,f9 (hQ U B ?_ ?_ ?_ ?_)⟩))
 .exact P.at λo R=>M.extBut _ o (G2 a) (L.extBut _ o (G2 a) (K.extBut _ o (G2 a) R))
 .exact M.extBut _ _ (D2 v) (L.extBut _ _ (D2 v) (K.extBut _ _ (D2 v) X))
 .show U.objs.size=f.objs.size+1;rw[M.1,L.1,K.1,Y]
 .intro b o r R;simp only[C7,B7,or_false,not_or] at r;exact M.extBut b o r.1 (L.extBut b o r.1 (K.extBut b o r.1 (a0 b o r.1 r.2 R)))
def MP {e it t:Addr}{i:Nat}{Q:Option b9->d9->Prop} (g:A.handled=none) (Z:UH s.heap e it t i) (h:s.heap.IsTuple t xs) (j:xs[i]?=none)
  (k:∀a,gB it s.heap a->Q none { s with heap:=a }):j8 (n6 prog w) A (Y3 (.ref e)) Q E s:=by
 obtain⟨⟨old,f⟩,b⟩:=Z;have hT:s.TypeIs (.ref e) "enumerate":=⟨_,f,rfl⟩
 unfold Y3;refine b7 (S8 (F6 (name:=K9 "__next__") hT gD (G1 gD hT Gh ?_ (FQ _))));show j8 _ _ (uh (.ref e) 2 >>= _) _ _ _;refine b7 (D5 f rfl (x:=.ref it) rfl ?_);refine b7 (vt g b h j λa x c d=>?_);obtain⟨o,l,m⟩:=d;exact b7 (hV (T:="StopIteration") (b:=true) ⟨o,l,m⟩ ko (f9 (k _ c)))
def Ca {t:Addr}{Q:b9->d9->Prop} (b:s.heap.IsTuple t xs)
  (h:∀a,UH a (s.heap.objs.size+1) s.heap.objs.size t 0->(∀c o,s.heap.get? c=some o->a.get? c=some o)->a.objs.size=s.heap.objs.size+2->Q (.ref (s.heap.objs.size+1)) { s with heap:=a }):
  j8 (n6 prog w) A (call (.type "enumerate") [.ref t]) Q E s:=by
 refine callType_new F.called_enumerate (by decide) (F.typeCall_enumerate_1 _) (F.newCall_enumerate_1 _) (λobj=>F.args_object_init_2 obj _) F.entry_enumerate_new (Fb t xs) ⟨b,?_⟩;simp only[D7];have e1:((s.heap.push (Sg t)).push (JM s.heap.objs.size)).get? (s.heap.objs.size+1)=some (JM s.heap.objs.size):=by
  have:((s.heap.push (Sg t)).push (JM s.heap.objs.size)).get? (s.heap.push (Sg t)).objs.size=some (JM s.heap.objs.size):=j7 _ rfl
  rwa [D7] at this
 refine⟨⟨_,e1,rfl⟩,h _ ⟨⟨_,e1⟩,⟨_,f6 _ (j7 _ rfl),rfl,rfl⟩⟩ (λc o e=>f6 _ (f6 _ e)) (by simp only[D7])⟩
end
section
variable {X:Cx}{pins:List (Addr × Obj)}{σ:St}{H:Hp}{s:d9}
def Ite (K:m9) (a:Addr):It :=
 ⟨λi H=>∃b x,jb K H a b/\b[i]?=some x,λi H v c=>∃p x,H p=none/\v=.ref p/\c=C3 H p (.tup [.int i,x])/\∀b,jb K H a b->b[i]?=some x,λi H=>∃b,jb K H a b/\b.length<=i⟩
def D1.yieldPair {i:Heap}{t':Nat}{j:List Addr}{x y:V}{u v:b9} (I:D1 X pins σ H s) (f:∀b∈j,gZ X pins H b) (k2:∀c o,c ∉ j->s.heap.get? c=some o->i.get? c=some o)
  (e0:i.get? s.heap.objs.size=some { cls:=.type "tuple",data:=.seq #[u,v] }) (w:K3 x u) (rv:K3 y v):D1 X pins σ (C3 H s.heap.objs.size (.tup [x,y])) { s with heap:=i,toks:=t' }:=by
 have g:H s.heap.objs.size=none:=I.hok.fresh (i4 _);have k:∀c o,s.heap.get? c=some o->c≠s.heap.objs.size:=λc o e=>y7 (i5 e);have h:∀c u,H c=some u->c ∉ j:=λc u e q=>by rw[(f c q).1] at e;cases e
 have l:dQ X.prog X.w (C3 H s.heap.objs.size (.tup [x,y])) i:=λc ob e=>by
  by_cases t:c=s.heap.objs.size
  .subst t;rw[j3] at e;cases e;exact⟨⟨by show 2<=j6;decide,_,e0,rfl⟩,[u,v],.cons w (.cons rv .nil),⟨_,e0,rfl,_,rfl⟩⟩
  .rw[t9 t] at e;refine (I.hok c ob e).stay (λd z p q=>k2 d z ?_ q) (λd q=>by rw[t9 (A5 q g)];exact q) λd A q=>by rw[t9 (A5 q g)];exact q
   obtain rfl|p:=p
   .exact h d ob e
   .exact h d _ p
 refine I.step (g':=s.gens) (d':=s.drawn) (t':=t') (ch:=j) (λc a=>⟨(f c a).2.2.2.1,(f c a).2.1,(f c a).2.2.2.2.1,(f c a).2.2.2.2.2⟩) (λc o _ _ a e _=>k2 c o a e) (λc o _ _ a e _=>⟨o.slots,k2 c o a e⟩)
  (λc o _ e n=>by rw[t9 (k c o e)];exact n) (λc o a e=>⟨o,k2 c o a e⟩) (λc A e=>by rw[t9 (A5 e g)];exact e) (λc o u e=>by rw[t9 (A5 e g)];exact e) (λc J e=>⟨#[],by rw[t9 (A5 e g),e];simp⟩) (λm B=>?_) l I.bare
 obtain⟨o,C,D,E,r⟩:=B;exact⟨o,C,D,k2 _ o (λq=>(f _ q).2.1 rfl) E,r⟩
def Az {P:j0}{w:w5}{K:m9}{es:List Expr}{O:Nat}{pos:Pos}{a e it:Addr} (g:e≠it):
  pV P w K (.Tuple es O pos) (Ite K a) [e,it] e (λi h=>UH h e it a i) where
 mem:=by simp
 obj:=λi h st c b=>by
  obtain⟨⟨_,d⟩,⟨_,p,_,d1⟩⟩:=st;simp only[C7,B7,or_false] at b;obtain rfl|rfl:=b
  .exact⟨_,d,λv q=>by cases q⟩
  .exact⟨_,p,λv q=>by rw[d1] at q;cases q⟩
 keep:=λi h j st k=>⟨let ⟨old,d⟩:=st.en;⟨old,k _ (by simp) _ d⟩,st.it.at λo e=>k _ (by simp) o e⟩
 item:=by
  intro X r t y b i pins s σ H E I m st A;subst r t y;obtain⟨Q,x,n,B⟩:=A;obtain⟨f,C,D,_⟩:=I.tuple n;obtain⟨u,R,S⟩:=C.get B;refine JN st (show s.heap.IsTuple a f.toArray from D) (x:=u) (by simpa using R) g λj z1 T new sz keep=>?_;refine⟨_,rfl,wpAny_letOwnedTupleGo_enum (s:={ s with heap:=j,toks:=s.toks+1 }) z1 λN z2 J=>?_⟩;have l:e<s.heap.objs.size:=let ⟨_,d⟩:=st.en;i5 d
  have L:it<s.heap.objs.size:=let ⟨_,p,_⟩:=st.it;i5 p
  have k2:∀c o,c ∉ [e,it]->s.heap.get? c=some o->N.get? c=some o:=λc o b q=>J.extBut _ _ (λz=>b (by simp[z])) (keep c o b q);have e0:N.get? s.heap.objs.size=some { cls:=.type "tuple",data:=.seq #[.int i s.toks,u] }:=J.extBut _ _ (D2 l) new;have U:H s.heap.objs.size=none:=I.hok.fresh (i4 _);refine⟨.ref s.heap.objs.size,_,I.yieldPair (t':=s.toks+1) (x:=.int i) (y:=x) m k2 e0 ⟨_,rfl⟩ S,rfl,⟨_,x,U,rfl,rfl,λV j=>by rw[I.tuple_inj j n];exact B⟩,?_,λc b=>?_⟩
  .refine⟨⟨u,?_⟩,T.at λo Y=>J.extBut _ o (G2 g) Y⟩;have e1:((i+1:Nat):Int)=(i:Int)+1:=by lia
   rw[e1];exact z2
  .have M:c<s.heap.objs.size:=by
    simp only[C7,B7,or_false] at b;obtain rfl|rfl:=b
    .exact l
    .exact L
   rw[t9 (y7 M)];exact(m c b).1
 done:=by intro X r t y b i pins s σ H E I m st A;subst r t y;obtain⟨Q,n,B⟩:=A;obtain⟨f,C,D,_⟩:=I.tuple n;have Z:=C.length;refine MP (I.ok.hd b) st (show s.heap.IsTuple a f.toArray from D) (by simp;lia) λj keep=>⟨rfl,I.turnedL (t':=s.toks) (ch:=[e,it]) (λc o b e=>keep c o (λq=>b (by simp[q])) e) m⟩
 self:=λ_ _ _ _ _ st h=>let ⟨_,d⟩:=st.en;Ug d h
def Fp:aV "enumerate"=some (.type "enumerate"):=by decide
def Tr (K:m9) (c:TA):TI:=λσ H R=>c σ H λd b=>∃a e,d=[.ref a]/\jb K b a e/\R (Ite K a) b
def Ih {e1:Expr}{es:List Expr}{m:Nat}{pt p pos:Pos}{g:TA} (n:Gl X "enumerate") (o:X.mg "enumerate"=none) (r:PA X [e1] g) (hs:B9 [e1] X.env=[(false,eval e1 X.env)]:=by rfl):
  PI X (.Tuple es m pt) (.Call (.Name "enumerate" p) [e1] [] pos) (Tr X.K g):=by
 intro pins s σ H R I h;refine Call_ (pP I n o Fp (bp (S6 (r pos pins s σ H _ I h) λA b ⟨B,i,e,j,t⟩=>?_) (by rw[hs];rfl) (by rfl)));obtain⟨a,C,rfl,u,q⟩:=t;cases j with
 | cons v w =>
  cases w;cases v;obtain⟨f,j,x,_⟩:=e.tuple u;refine Ca (show b.heap.IsTuple a f.toArray from x) λk Z keep sz=>?_;obtain⟨old,y⟩:=id Z.en;refine Ug (s:={ b with heap:=k }) y ?_;have z:D1 X pins σ i { b with heap:=k }:=e.kept (t':=b.toks) keep;refine⟨b.heap.objs.size+1,[b.heap.objs.size+1,b.heap.objs.size],_,_,i,rfl,z,Az (by show b.heap.objs.size+1≠b.heap.objs.size;lia),Z,λc l=>?_,q⟩;have d:b.heap.objs.size<=c:=by simp only[C7,B7,or_false] at l;rcases l with rfl|rfl <;> first|exact kJ _ _|exact i4 _
  exact e.fpOk d (e.hok.fresh d)
end
section
variable {prog:j0}{w:w5}{A:A3}{E:b9->d9->Prop}{s:d9}
variable {d:Addr}{Q:b9->d9->Prop}
def tM (hd:(d == R4)=false) (hT:s.TypeIs (.ref d) "dict") (h:Q (.ref s.heap.objs.size) { s with heap:=s.heap.push { cls:=.type "dict_items",data:=.fields #[.ref d] } }):
  j8 (n6 prog w) A (call (.builtin "dict.items") [.ref d]) Q E s:=by
 have g:MeetsIn prog w (iw.«dict.items» ⟨[.ref d],[]⟩) (λ_ R s=>s.TypeIs (.ref d) "dict"/\R (.ok (.ret (.ref s.heap.objs.size))) { s with heap:=s.heap.push { cls:=.type "dict_items",data:=.fields #[.ref d] } }):=
  .of_wp λA R s ⟨a,h⟩=>by unfold iw.«dict.items»;refine b7 ?_;unfold Builtin.Dict.noArgs;refine b7 (Ni a ?_);show j8 _ _ (pure d) _ _ s;refine f9 ?_;show j8 _ _ (dG d >>= _) _ _ s;unfold dG;rw[ZC (by rw[hd];exact v8)];refine b7 (f9 ?_);exact b7 (E4 (f9 ⟨_,rfl,h⟩))
 exact nP jE hT PySem.F.entry_dict_items (PySem.F.args_dict_items_1 _) g ⟨hT,h⟩
variable {od:Obj}{es:Array J2}{ep:Nat}
def qB {v:Addr}(c:s.heap.IsItemsView v d) (g:s.heap.get? d=some od) (a:od.data=.dict es ep)
  (h:Q (.ref s.heap.objs.size) { s with heap:=s.heap.push { cls:=.type "dict_itemiterator",data:=.fields #[.none,.bool false,.ref d,.int 0 0,.int es.size 0,.int ep 0,.none,.none] } }):
  j8 (n6 prog w) A (qJ (.ref v)) Q E s:=by
 obtain⟨j,e,i,f⟩:=id c;refine vQ c.typeIs Gg (G1 Gg c.typeIs F.entry_dict_items_iter ?_ (F.args_dict_items_iter_1 _));unfold iw.«dict_items.__iter__»;refine b7 (f9 ?_);refine b7 ?_;unfold Builtin.Dict_items.dictOf;refine b7 (D5 e f (x:=.ref d) rfl (f9 ?_));refine b7 ?_;unfold Builtin.Dict_items.newIterator;refine b7 (Z1 g a ?_);refine b7 (aP g a ?_);have b:M5 "dict_itemiterator"=true:=by decide
 simp only[b,if_true];refine E4 (f9 ⟨_,rfl,"dict_itemiterator",_,⟨_,j7 _ rfl,rfl⟩,F.slot_dict_itemiterator_next.lookup,?_⟩)
  (by simp only[sizeOk,jk,A2,y9,n5,aF,R7];lia)
 simpa [N6,jk] using h
variable {it:Addr}{i:Nat}{ov:b9}
def qC {a:J2}{ok:b9}{Q:Option b9->d9->Prop} (j:dm s.heap it d i es.size ep ok ov)
  (x:s.heap.get? d=some od) (y:od.data=.dict es ep) (V:es[i]?=some a)
  (Y:∀z,Gd z it d (i+1) es.size ep a.key a.val s.heap.objs.size->z.get? s.heap.objs.size=some { cls:=.type "tuple",data:=.seq #[a.key,a.val] }->z.objs.size=s.heap.objs.size+1 ->
   (∀b o,b≠it->s.heap.get? b=some o->z.get? b=some o)->Q (some (.ref s.heap.objs.size)) { s with heap:=z }):j8 (n6 prog w) A (Y3 (.ref it)) Q E s:=by
 obtain⟨c,g,B,C,os⟩:=s;have hT:fF ⟨c,g,B,C,os⟩ (.ref it) "dict_itemiterator":=⟨_,j,rfl⟩
 unfold Y3;refine b7 (S8 (F6 (name:=K9 "__next__") hT K4
  (G1 K4 hT bA ?_ (bj _))))
 refine b7 (f9 ?_);refine b7 ?_;refine b7 ?_;first|refine b7 (K0 hT (f9 ?_))|refine b7 (N5 hT (f9 ?_))
 refine b7 (bJ j rfl ?_);have D:M5 "dict_itemiterator"=true:=by decide
 simp only[D,if_true];show j8 _ _ (if (r6 d == B4)=true then _ else _) _ _ _;rw[ZC (show ¬ ((r6 d == B4)=true) from v8)];refine b7 (f9 ?_);refine b7 (Z1 x y ?_);rw[ZC (by simp)];refine b7 (f9 ?_);refine b7 (aP x y ?_);rw[ZC (by simp)];refine f9 ?_;obtain⟨X,Z⟩:=ZU.mp V;simp only[show ¬ ((i:Int)<0) from by lia,Zq,M9,V];refine b7 ?_;first|refine b7 (K0 hT (f9 ?_))|refine b7 (N5 hT (f9 ?_))
 refine b7 (V7 hT ?_);show j8 _ _ (iO (.ref it) 3 (N6 ((i:Int)+1)) >>= _) _ _ ⟨c,g,B,C,os⟩;refine b7 (F0 j (by simp) λn f H=>?_);replace H:F5 it c n:=H
 replace f:dm n it d (i+1) es.size ep ok ov:=by
  have e:((i+1:Nat):Int)=(i:Int)+1:=by lia
  unfold dm;rw[e];simpa [N6] using f
 have p:fF ⟨n,g,B,C,os⟩ (.ref it) "dict_itemiterator":=⟨_,f,rfl⟩
 refine b7 (F2 ?_);refine b7 (V7 p ?_);refine b7 (V7 p ?_);show j8 _ _ (X9 (.ref it) 6 a.key a.val) _ _ ⟨n,g,B,C,os⟩;unfold X9;refine b7 (fU ?_);have h:dm (n.push { cls:=.type "tuple",data:=.seq #[a.key,a.val] }) it d (i+1) es.size ep ok ov:=f6 _ f;generalize k:n.push { cls:=.type "tuple",data:=.seq #[a.key,a.val] }=I at h;have l:n.objs.size=c.objs.size:=H.1;have m:it<c.objs.size:=i5 j;have O:I.get? c.objs.size=some { cls:=.type "tuple",data:=.seq #[a.key,a.val] }:=by rw[<- k,<- l];exact j7 _ rfl
 have P:I.objs.size=c.objs.size+1:=by rw[<- k,D7,l]
 have R:∀b o,b≠it->c.get? b=some o->I.get? b=some o:=λb o q e=>by rw[<- k];exact f6 _ (H.extBut b o q e)
 show j8 _ _ (W0 (.ref it) >>= _) _ _ ⟨I,g,B,C,os⟩;rw[l];clear k f H p l n;refine b7 ?_;unfold W0;refine b7 (D5 h rfl (x:=.none) rfl (f9 ?_));simp only[if_true];refine b7 (D5 h rfl (x:=ok) rfl ?_);refine b7 (D5 h rfl (x:=ov) rfl ?_);refine b7 (F0 h (by simp) λS r J=>?_);replace J:F5 it I S:=J
 replace r:dm S it d (i+1) es.size ep a.key ov:=r
 refine b7 (F0 r (by simp) λT t K=>?_);replace K:F5 it S T:=K
 replace t:dm T it d (i+1) es.size ep a.key a.val:=t
 refine b7 (F0 t (by simp) λU u L=>?_);replace L:F5 it T U:=L
 replace u:Gd U it d (i+1) es.size ep a.key a.val c.objs.size:=u
 refine b7 (F0 u (by simp) λN v M=>?_);replace M:F5 it U N:=M
 replace v:Gd N it d (i+1) es.size ep a.key a.val c.objs.size:=v
 refine b7 (zQ (f9 (f9 ⟨_,rfl,f9 (Y N v ?_ ?_ ?_)⟩)))
 .exact M.extBut _ _ (D2 m) (L.extBut _ _ (D2 m) (K.extBut _ _ (D2 m) (J.extBut _ _ (D2 m) O)))
 .show N.objs.size=c.objs.size+1;rw[M.1,L.1,K.1,J.1,P]
 .exact λb o q e=>M.extBut b o q (L.extBut b o q (K.extBut b o q (J.extBut b o q (R b o q e))))
def tN {ok:b9}{Q:Option b9->d9->Prop} (h:A.handled=none) (a:dm s.heap it d i es.size ep ok ov)
  (b:s.heap.get? d=some od) (c:od.data=.dict es ep) (f:es.size<=i) (j:∀g,gB it s.heap g->Q none { s with heap:=g }):j8 (n6 prog w) A (Y3 (.ref it)) Q E s:=by
 have hT:s.TypeIs (.ref it) "dict_itemiterator":=⟨_,a,rfl⟩
 unfold Y3;refine b7 (S8 (F6 (name:=K9 "__next__") hT K4
  (G1 K4 hT bA ?_ (bj _))))
 refine b7 (f9 ?_);refine b7 ?_;refine b7 ?_;first|refine b7 (K0 hT (f9 ?_))|refine b7 (N5 hT (f9 ?_))
 refine b7 (bJ a rfl ?_);have e:M5 "dict_itemiterator"=true:=by decide
 simp only[e,if_true];show j8 _ _ (if (r6 d == B4)=true then _ else _) _ _ s;rw[ZC (show ¬ ((r6 d == B4)=true) from v8)];refine b7 (f9 ?_);refine b7 (Z1 b c ?_);rw[ZC (by simp)];refine b7 (f9 ?_);refine b7 (aP b c ?_);rw[ZC (by simp)];refine f9 ?_;simp only[show ¬ ((i:Int)<0) from by lia,Zq,M9,kK f];refine b7 ?_;first|refine b7 (K0 hT (f9 ?_))|refine b7 (N5 hT (f9 ?_))
 show j8 _ _ (iO (.ref it) 2 .none >>= _) _ _ s;refine b7 (S7 a rfl (by simp) ?_);show j8 _ _ (xY (.type "StopIteration") [] >>= _) _ _ _;refine b7 ?_;simp only[xY,DN];refine b7 (E4 ?_ (by size_fits));refine b7 (m:=bL _ _) (qI (a:=B4) (by first|rfl | (simp only[bL];rfl)) ?_);refine E4 ?_ (by size_fits);simp only[Oj];refine b7 (uf ?_);rw[show A.in1.handled=none from h];refine b7 (f9 (qH ?_));refine b7 (hV (T:="StopIteration") (b:=true) ⟨_,j7 _ rfl,rfl⟩ ko ?_);exact f9 (j _ (((N1 ..).extBut.push _).push _))
def mh:entryFor table "dict_itemiterator.__iter__"=some iw.«dict_keyiterator.__iter__»:=entryFor_alias (id':="dict_keyiterator.__iter__") (by kernel_rfl) rfl (by decide) (by kernel_rfl)
def uH {n:Nat}{ok:b9}(h:dm s.heap it d i n ep ok ov) (q:Q (.ref it) s):j8 (n6 prog w) A (qJ (.ref it)) Q E s:=by
 have hT:s.TypeIs (.ref it) "dict_itemiterator":=⟨_,h,rfl⟩
 refine vQ hT xO (G1 xO hT mh ?_ (F.args_dict_itemiterator_iter_1 _));exact f9 ⟨_,rfl,"dict_itemiterator",_,hT,F.slot_dict_itemiterator_next.lookup,q⟩
end
section
variable {X:Cx}{pins:List (Addr × Obj)}{σ:St}{H:Hp}{s:d9}
def Ub (d:Addr) (o:Obj) (kvs:List (List O0 × V)):It :=
 ⟨λi H=>H d=some (.frz o (.dT kvs))/\i<kvs.length,λi H v b=>∃p a k x,H p=none/\v=.ref p/\b=C3 H p (.tup [.ref a,x])/\kvs[i]?=some (k,x)/\H a=some (.tup (k.map kV)),λi H=>H d=some (.frz o (.dT kvs))/\kvs.length<=i⟩
theorem Paired.get {c d:Type}{F:c->d->Prop}:∀{l:List c}{m:List d}{i:Nat}{a:c},DW F l m->l[i]?=some a->∃b,m[i]?=some b/\F a b
 | _::_,_::_,0,_,.cons r _,h=>by cases h;exact⟨_,rfl,r⟩
 | _::_,_::_,i+1,_,.cons _ t,h=>by obtain⟨b,e,r⟩:=Paired.get (i:=i) t (by simpa using h);exact⟨b,by simpa using e,r⟩
variable {d:Addr}{kvs:List (List O0 × V)}
def D1.frzT {o:Obj}{es:Array J2}{ep:Nat} (I:D1 X pins σ H s) (e:H d=some (.frz o (.dT kvs))) (hd:o.data=.dict es ep):
  s.heap.get? d=some o/\es.size=kvs.length/\∀(i:Nat) (k:List O0) (x:V),kvs[i]?=some (k,x)->∃(b:Addr) (u:b9) (a:J2),es[i]?=some a/\a.key=.ref b/\a.val=u/\H b=some (.tup (k.map kV))/\K3 x u:=by
 obtain⟨c,_,_,w,r,y,j,l,f,_,g,h,_⟩:=(show O4 X.prog X.w H s.heap d (.frz o (.dT kvs)) from I.hok d _ e)
 rw[c] at f;cases f;rw[hd] at g;cases g;have m:es.size=kvs.length:=by rw[<- u9,h,d8];exact(fG r).symm
 refine⟨c,m,λi k x n=>?_⟩;obtain⟨q,p,z,t,v⟩:=Paired.get r n;refine⟨q.2.1,q.2.2,RL (dw (P9 X.prog X.w)) q,?_,rfl,rfl,t,v⟩;rw[<- G7,h,w6,p];rfl
def Ay {P:j0}{w:w5}{K:m9}{n:List Expr}{Q:Nat}{pos:Pos}{it:Addr}{o:Obj}{es:Array J2}{ep:Nat} (hd:o.data=.dict es ep):
  pV P w K (.Tuple n Q pos) (Ub d o kvs) [it] it (λi h=>∃ok f,dm h it d i es.size ep ok f) where
 mem:=by simp
 obj:=λi h st c a=>by obtain⟨ok,f,b⟩:=st;simp only[C7,B7,or_false] at a;subst a;exact⟨_,b,λv q=>by cases q⟩
 keep:=λi h p st k=>let ⟨ok,f,b⟩:=st;⟨ok,f,k _ (by simp) _ b⟩
 item:=by
  intro X r t y a i pins s σ H E I m st A;subst r t y;obtain⟨B,M⟩:=A;obtain⟨ok,f,b⟩:=st;obtain⟨C,D,g⟩:=I.frzT B hd;obtain⟨⟨k,x⟩,j⟩:∃R,kvs[i]?=some R:=⟨_,j4 M⟩
  obtain⟨J,u,U,e1,e2,e3,e4,S⟩:=g i k x j;refine qC b C hd e1 λp z1 new sz keep=>?_;rw[e2,e3] at z1 new;refine⟨_,rfl,wpAny_letOwnedTupleGo_items (s:={ s with heap:=p }) z1 λN z2 O=>?_⟩;have l:it<s.heap.objs.size:=i5 b;have k2:∀c o,c ∉ [it]->s.heap.get? c=some o->N.get? c=some o:=λc o a q=>O.extBut _ _ (λz=>a (by simp[z])) (keep c o (λz=>a (by simp[z])) q);have e0:N.get? s.heap.objs.size=some { cls:=.type "tuple",data:=.seq #[.ref J,u] }:=O.extBut _ _ (D2 l) new;have T:H s.heap.objs.size=none:=I.hok.fresh (i4 _);refine⟨.ref s.heap.objs.size,_,I.yieldPair (t':=s.toks) (x:=.ref J) (y:=x) m k2 e0 rfl S,rfl,⟨_,J,k,x,T,rfl,rfl,j,e4⟩,⟨_,_,z2⟩,λc a=>?_⟩;have L:c<s.heap.objs.size:=by simp only[C7,B7,or_false] at a;subst a;exact l
  rw[t9 (y7 L)];exact(m c a).1
 done:=by intro X r t y a i pins s σ H E I m st A;subst r t y;obtain⟨B,M⟩:=A;obtain⟨ok,f,b⟩:=st;obtain⟨C,D,_⟩:=I.frzT B hd;exact tN (I.ok.hd a) b C hd (by lia) λp keep=>⟨rfl,I.turnedL (t':=s.toks) (ch:=[it]) (λc o a e=>keep c o (λq=>a (by simp[q])) e) m⟩
 self:=λ_ _ _ _ _ st h=>let ⟨_,_,b⟩:=st;uH b h
def D1.freeze (I:D1 X pins σ H s) (e:H d=some (.dT kvs)):∃o f g,o.data=.dict f g/\s.heap.get? d=some o/\D1 X pins σ (C3 H d (.frz o (.dT kvs))) s:=by
 have ok:=(show O4 X.prog X.w H s.heap d (.dT kvs) from I.hok d _ e)
 obtain⟨_,_,_,_,o,f,g,i,_,j,_⟩:=id ok;refine⟨o,f,g,j,i,?_⟩;have tup:∀b h,H b=some (.tup h)->C3 H d (.frz o (.dT kvs)) b=some (.tup h):=λb h q=>by rw[t9 (jt q e (by intro z;cases z))];exact q
 have own:∀b c,H b=some (.own c)->C3 H d (.frz o (.dT kvs)) b=some (.own c):=λb c q=>by rw[t9 (jt q e (by intro z;cases z))];exact q
 have:=I.step (H':=C3 H d (.frz o (.dT kvs))) (h':=s.heap) (g':=s.gens) (d':=s.drawn) (t':=s.toks) (ch:=[]) (λ_ z=>nomatch z) (λb o _ _ _ q _=>q) (λb o _ _ _ q _=>⟨o.slots,q⟩)
  (λb o _ _ n=>by
   by_cases a:b=d
   .subst a;rw[e] at n;cases n
   .rw[t9 a];exact n) (λb o _ q=>⟨o,q⟩) tup (λb o u q=>by rw[t9 (jt q e (by intro z;cases z))];exact q) (λb l q=>⟨#[],by rw[t9 (jt q e (by intro z;cases z)),q];simp⟩) (λm k=>k)
  (λb ob q=>by
   by_cases a:b=d
   .subst a;rw[j3] at q;cases q;exact⟨i,ok.stay (λc v _ q=>q) (λc q=>own c _ q) tup⟩
   .rw[t9 a] at q;exact(I.hok b ob q).stay (λc v _ q=>q) (λc q=>own c _ q) tup) I.bare
 exact this
def QD (b:TE):TI:=λσ H R=>b σ H λx a=>∃d kvs,x=.ref d/\a d=some (.dT kvs)/\∀o,R (Ub d o kvs) (C3 a d (.frz o (.dT kvs)))
def Ig {e:Expr}{p:List Expr}{z:Nat}{pt f cpos:Pos}{u:TE} (A:PE X e u) (k:eI e "items" X.env (eval e X.env)=eval e X.env:=by rfl) (l:(f.endLine == cpos.line)=true:=by rfl):
  PI X (.Tuple p z pt) (.Call (.Attribute e "items" f) [] [] cpos) (QD u):=by
 intro pins s σ H R I h;refine Ki k l (S6 (A pins s σ H _ I h) λv g ⟨x,r,w,B,d,kvs,C,y,q⟩=>?_);subst C;cases B;obtain⟨o,J,K,i,c,D⟩:=w.freeze y;obtain⟨_,n,_,_,L,_,_,j,m,_⟩:=(show O4 X.prog X.w r g.heap d (.dT kvs) from w.hok d _ y)
 rw[c] at j;cases j;refine⟨"dict","dict.items",du,jE,xJ,⟨o,c,m.1⟩,λa e=>by cases e;exact⟨o,c,m.2.1⟩,bB rfl (FI ?_)⟩;refine tM n ⟨o,c,m.1⟩ ?_;refine qB (s:={ g with heap:=g.heap.push { cls:=.type "dict_items",data:=.fields #[.ref d] } }) ⟨_,j7 _ rfl,rfl,rfl⟩ (f6 _ c) i ?_;have t:D1 X pins σ (C3 r d (.frz o (.dT kvs))) { g with heap:=g.heap.push { cls:=.type "dict_items",data:=.fields #[.ref d] } }:=D.kept (t':=g.toks) λb o e=>f6 _ e;refine⟨_,[_],_,_,C3 r d (.frz o (.dT kvs)),rfl,t.kept (t':=g.toks) λb o e=>f6 _ e,Ay i,⟨_,_,j7 _ rfl⟩,λb E=>?_,q o⟩;have e:b=(g.heap.push { cls:=.type "dict_items",data:=.fields #[.ref d] }).objs.size:=by simpa using E
 subst e;exact t.fpOk (i4 _) (t.hok.fresh (i4 _))
end
section
variable {X:Cx}
def tDT1 (e f:TE):TE:=λc H Q=>∀p,H p=none->e c (C3 H p (.dT [])) λy g=>f c g λx a=>a p=some (.dT [])/\∃b d,y=.ref b/\a b=some (.tup (d.map kV))/\Q (.ref p) (C3 a p (.dT [(d,x)]))
def PL {k v:Expr}{h i:TE}{pos:Pos} (o:X.A.units+1<fW) (p:PE X k h) (t:PE X v i):PE X (.Dict [some k] [v] pos) (tDT1 h i):=by
 intro a s j H Q I q;have w:=I.hok.fresh (i4 s.heap.objs.size);have A:=I.laid (a:=s.heap.objs.size) (o:=.dT []) (h':=s.heap.push { cls:=.type "dict",data:=.dict #[] }) (t':=s.toks) (λ_ _ q=>f6 _ q) (i4 _) (zk s.heap I.big);refine wpAny_Dict_any rfl rfl (by simp) (by simp) (pairTrees_cons_walk (S6 (p a _ j _ _ A (q _ w)) λu B ⟨y,C,D,E,J⟩=>S6 (t a B j C _ D J) λr s2 ⟨x,H2,f,K,e,b,L,M,eb,N⟩=>pairTrees_nil_walk ?_));subst M;cases E;unfold storeAll;rw[bP];obtain⟨z,O,P,d,dd⟩:=NU f.hok e;have R:P.length<=j6:=by rw[<- fG d];exact z
 refine b7 (b7 (wpAny_dictSet_heap (hsz:=R) (knd:=dw (P9 X.prog X.w)) (show (dw (P9 X.prog X.w)).room X.A from Nat.lt_of_succ_lt o) (mU f.hok eb) dd λh' g S=>f9 ?_));show j8 _ _ (forIn [] PUnit.unit _) _ _ _;rw[fe];refine f9 ⟨.ref s.heap.objs.size,_,?_,rfl,N⟩;obtain⟨l,T,U,m,V,Y,Z,_,h5⟩:=g;refine rG f (by rw[e];exact ak) S ⟨l,m⟩ ⟨by show 1<=j6;decide,O,_,(d.put L eb K).keeps λc ys n=>?_,l,T,U,m,V,Y,Z,h5⟩;rw[t9 (jt n e (λz=>nomatch z))];exact n
end
def EY {d:Addr}{o:Obj}{kvs:List (List O0 × V)}{g:TG}{n:TS}{D:oK}{a:St}{H:Hp} (Pv:Nat->St->Hp->Prop) (s:Pv 0 a H) (t:∀i a H,i<=kvs.length->Pv i a H->H d=some (.frz o (.dT kvs)))
  (hs:∀i k x a H p j,kvs[i]?=some (k,x)->H p=none->H j=some (.tup (k.map kV))->Pv i a H->g (.ref p) a (C3 H p (.tup [.ref j,x])) λb l=>n { D with nx:=Pv (i+1),ct:=Pv (i+1),bk:=D.nx } b l) (hd:∀a H,Pv kvs.length a H->D.nx a H):
  ∃W:Nat->Nat->St->Hp->Prop,(∃m,W 0 m a H)/\∀i m a H,W i m a H ->
   ((Ub d o kvs).stop i H/\D.nx a H) ∨ ((Ub d o kvs).go i H/\∃N:St->Hp->Prop,(∀c f,N c f->∃r,r<m/\W (i+1) r c f)/\∀x f,(Ub d o kvs).yld i H x f->g x a f λb l=>n { D with nx:=N,ct:=N,bk:=D.nx } b l):=by
 refine⟨λi m a H=>m=kvs.length - i/\i<=kvs.length/\Pv i a H,⟨kvs.length,by simp,A6 _,s⟩,?_⟩;rintro i m a H ⟨rfl,u,p⟩;have q:=t i a H u p;obtain h|h:=UU i kvs.length
 .refine .inr ⟨⟨q,h⟩,Pv (i+1),λc f v=>⟨_,by lia,rfl,by lia,v⟩,λx f y=>?_⟩;obtain⟨w,j,k,z,A,rfl,rfl,B,C⟩:=y;exact hs i k z a H w j B A C p
 .have e:i=kvs.length:=by lia
  subst e;exact .inl ⟨⟨q,i4 _⟩,hd a H p⟩
def wk2 {a:St} (b:a[0]?=some none/\a[1]?=some none) (x y:V):Wk a ((a.set 0 (some x)).set 1 (some y)):=by
 refine⟨by simp,λj u e=>?_⟩;by_cases c:j=1
 .subst c;rw[b.2] at e;cases e
 .rw[P1 (G2 c)];by_cases d:j=0
  .subst d;rw[b.1] at e;cases e
  .rw[P1 (G2 d)];exact e
def JY {K:m9}{a:Addr}{xs:List V}{d:St}{tc:TT}{l:TE}{H:Hp}{F:List V->Hp->Prop} (C:xs.length<=j6) (Pv:Nat->List V->Hp->Prop) (s:Pv 0 [] H) (t:∀i c H,Pv i c H->c.length<=i)
  (u:∀i c H,i<=xs.length->Pv i c H->jb K H a xs) (h:d[0]?=some none/\d[1]?=some none)
  (hs:∀i c H x p,xs[i]?=some x->H p=none->Pv i c H->tc ((d.set 0 (some (.int i))).set 1 (some x)) (C3 H p (.tup [.int i,x])) λb n=>if b=true then l ((d.set 0 (some (.int i))).set 1 (some x)) n (λz f=>Pv (i+1) (c++[z]) f) else Pv (i+1) c n)
  (hd:∀c H,Pv xs.length c H->F c H):Cj (Ite K a) d (EX K 2 (oB (V5 0) (oB (V5 1) JE))) tc l H F:=by
 refine⟨λi m c H=>m=xs.length - i/\i<=xs.length/\Pv i c H,⟨xs.length,by simp,A6 _,s⟩,?_⟩;rintro i m c j ⟨rfl,w,p⟩;have q:=u i c j w p;have o:=t i c j p;refine⟨by lia,?_⟩;by_cases g:i<xs.length
 .refine .inr ⟨⟨xs,xs[i],q,by simp[g]⟩,λy f=>Pv (i+1) (c++[y]) f,λf=>Pv (i+1) c f,λy f q=>⟨xs.length - (i+1),by lia,rfl,g,q⟩,λf q=>⟨xs.length - (i+1),by lia,rfl,g,q⟩,λv D k=>?_⟩;obtain⟨r,x,A,rfl,rfl,B⟩:=k;exact⟨r,[.int i,x],rfl,.of j3,rfl,.int i,[x],rfl,x,[],rfl,rfl,wk2 h _ _,hs i c _ x r (B xs q) A p⟩
 .have e:i=xs.length:=by lia
  subst e;exact .inl ⟨⟨xs,q,i4 _⟩,hd c j p⟩
end L2
namespace Mt
def fr (q:Rat):List Int:=[q.num,(q.den:Int)]
def cut (t b:Int):Rat:=mkRat t b.toNat
variable {b:Int}
def Du {t:Int} (a:0<b):(cut t b).num=t / (bh t b:Int):=by
 have h:b.toNat≠0:=by lia
 unfold cut;rw[qe,dif_neg h,Rat.num_normalize];have e:b.toNat=b.natAbs:=by lia
 rw[e];rfl
def Dv {t:Int} (a:0<b):((cut t b).den:Int)=b / (bh t b:Int):=by
 have h:b.toNat≠0:=by lia
 unfold cut;rw[qe,dif_neg h,Rat.den_normalize];have e:b.toNat=b.natAbs:=by lia
 rw[e,Int.natCast_ediv];have e2:((b.natAbs:Nat):Int)=b:=by lia
 rw[e2];rfl
def QG {t:Int} (a:0<b):fr (cut t b)=[t / (bh t b:Int),b / (bh t b:Int)]:=by unfold fr;rw[Du a,Dv a]
def MS (p q:Rat):cut (p.num*q.num) ((p.den:Int)*(q.den:Int))=p*q:=by
 unfold cut;rw[Rat.mul_def,qe];have e:((p.den:Int)*(q.den:Int)).toNat=p.den*q.den:=by rw[<- mq];rfl
 have a:=p.den_nz;have c:=q.den_nz;have h:p.den*q.den≠0:=mn a c;rw[dif_neg (by rw[e];exact h)];congr 1
def MT (p q:Rat):cut (p.num*(q.den:Int)+q.num*(p.den:Int)) ((p.den:Int)*(q.den:Int))=p+q:=by
 unfold cut;rw[Rat.add_def,qe];have e:((p.den:Int)*(q.den:Int)).toNat=p.den*q.den:=by rw[<- mq];rfl
 have a:=p.den_nz;have c:=q.den_nz;have h:p.den*q.den≠0:=mn a c;rw[dif_neg (by rw[e];exact h)];congr 1
structure Bd (n:Nat) (q:Rat):Prop where
 num:q.num.natAbs<=2 ^ n
 den:q.den<=2 ^ n
def kT (a:Int) (g:Nat):(a / (g:Int)).natAbs<=a.natAbs:=by
 obtain h|h:=qL g
 .subst h;simp
 .have d:(0:Int)<g:=by lia
  obtain c|c:=Int.le_total 0 a
  .have e:0<=a / (g:Int):=Int.ediv_nonneg c (by lia);have f:a / (g:Int)<=a:=Int.ediv_le_self _ c;lia
  .have e:a<=a / (g:Int):=by rw[Int.le_ediv_iff_mul_le d];have:a*(g:Int)<=a*1:=Int.mul_le_mul_of_nonpos_left c (by lia);lia
   have f:a / (g:Int)<=0:=by have:=Int.ediv_le_ediv d c;simpa using this
   lia
theorem Bd.cut {t b:Int}{n:Nat} (a:0<b) (c:t.natAbs<=2 ^ n) (d:b.natAbs<=2 ^ n):Bd n (Mt.cut t b):=by
 refine⟨?_,?_⟩
 .rw[Du a];exact j9 (kT _ _) c
 .have:=Dv (t:=t) a;have l:=kT b (bh t b);lia
def fB:List Int->List Int->List Int:=List.zipWith (·+·)
def Sz (ns:List Int) (k:Nat):Rat:=cut (ns.getD k 0) ns.sum
structure jW (n m:Nat) (ns:List Int):Prop where
 len:ns.length=n
 nn:∀x∈ns,0<=x/\x<=m
 pos:0<ns.sum
structure NY (n m:Nat) (r:List Int):Prop where
 len:r.length=n
 nn:∀x∈r,0<=x/\x<=m
structure jx (n m:Nat) (rs:List (List Int)):Prop where
 len:rs.length=n
 row:∀r∈rs,NY n m r
def jx.at {n m:Nat}{rs:List (List Int)} (h:jx n m rs) {k:Nat} (c:k<n):NY n m (rs.getD k []):=by
 have a:k<rs.length:=by rw[h.len];exact c
 have:rs.getD k []=rs[k]:=by rw[E5,j4 a];rfl
 rw[this];exact h.row _ (af a)
theorem gL:∀{l:List Int},(∀x∈l,0<=x)->0<=l.sum
 | [],_=>by simp
 | a::l,h=>by rw[X0];have d:=h a f7;have e:=gL λx c=>h x (g0 _ c);lia
theorem sum_le {m:Int}:∀{l:List Int},(∀x∈l,x<=m)->l.sum<=m*(l.length:Int)
 | [],_=>by simp
 | a::l,h=>by
  rw[X0,n5];have d:=h a f7;have f:=sum_le λx c=>h x (g0 _ c);have e:m*((l.length+1:Nat):Int)=m*(l.length:Int)+m:=by rw[Int.natCast_add,Int.mul_add];simp
  lia
theorem zL:∀{a b:List Int},a.length=b.length->(fB a b).sum=a.sum+b.sum
 | [],[],_=>by simp[fB]
 | x::a,y::b,h=>by
  have c:=zL (a:=a) (b:=b) (by simpa using h);show ((x+y)::fB a b).sum=_;rw[X0,X0,X0,c];lia
 | [],_::_,h=>by simp at h
 | _::_,[],h=>by simp at h
theorem zM:∀{a b:List Int}{x:Int},x∈fB a b->∃y∈a,∃z∈b,x=y+z
 | [],b,x,h=>by simp[fB] at h
 | _::_,[],x,h=>by simp[fB] at h
 | p::a,q::b,x,h=>by
  obtain e|h:=C7.mp (show x∈(p+q)::fB a b from h)
  .exact⟨p,f7,q,f7,e⟩
  .obtain⟨y,c,z,d,e⟩:=zM h;exact⟨y,g0 _ c,z,g0 _ d,e⟩
def jW.add(h:jW n m ns) (a:NY n j r):jW n (m+j) (fB ns r):=by
 have d:ns.length=r.length:=by rw[h.len,a.len]
 refine⟨?_,λx c=>?_,?_⟩
 .unfold fB;rw[oP,h.len,a.len];lia
 .obtain⟨y,f,z,g,e⟩:=zM c;have:=h.nn y f;have:=a.nn z g;lia
 .rw[zL d];have:=gL (l:=r) λx c=>(a.nn x c).1;have:=h.pos;lia
theorem jW.getD(h:jW n m ns) (k:Nat):0<=ns.getD k 0/\ns.getD k 0<=m:=by
 rw[E5];cases e:ns[k]? with
 | none=>simp
 | some x=>exact h.nn x (r0 e)
def jG:List Rat->Rat
 | []=>0
 | q::r=>q+jG r
theorem qk:∀a b:List Rat,jG (a++b)=jG a+jG b
 | [],b=>by show jG b=0+jG b;grind
 | q::a,b=>by show q+jG (a++b)=q+jG a+jG b;rw[qk a b];grind
end Mt
namespace Md
open PySem PySem.Spec L2 Mt
def kI (ns:List Int):List O0:=ns.map cx
def Dj (ns:List Int):(kI ns).map kV=ns.map V.int:=by unfold kI;rw[R8];rfl
theorem tJ:∀{a b:List Int},kI a=kI b->a=b
 | [],[],_=>rfl
 | [],_::_,h=>by cases h
 | _::_,[],h=>by cases h
 | x::a,y::b,h=>by
  have d:(cx x:O0)::kI a=cx y::kI b:=h;injection d with c e
  injection c with c
  rw[c,tJ e]
def dl (k:List Int):List Int->Int:=λa=>if a=k then 1 else 0
def gK (rs:List (List Int)) (u:List Int):Nat->List Int->List (Int × List Int)
 | _,[]=>[]
 | i,b::bs=>if 0<b then (b,fB u (rs.getD i []))::gK rs u (i+1) bs else gK rs u (i+1) bs
def va (rs:List (List Int)) (u:List Int):List (Int × List Int):=gK rs u 0 u
def opT (rs:List (List Int)) (a:List Int->Int) (u:List Int):Int:=((P0 u.length).map λi=>u.getD i 0*a (fB u (rs.getD i []))).sum
def oZ (rs:List (List Int)) (u:List Int) (i:Nat) (b:Int) (bs:List Int):gK rs u i (b::bs)=if 0<b then (b,fB u (rs.getD i []))::gK rs u (i+1) bs else gK rs u (i+1) bs:=rfl
theorem ou {rs:List (List Int)}{u:List Int}:∀{bs:List Int}{i:Nat}{b:Int × List Int},b∈gK rs u i bs->∃j,j<bs.length/\b.1=bs.getD j 0/\b.2=fB u (rs.getD (i+j) [])
 | [],_,_,h=>by unfold gK at h;simp at h
 | x::bs,i,b,h=>by
  unfold gK at h;split at h
  .rcases C7.mp h with e|e
   .subst e;exact⟨0,by simp,rfl,rfl⟩
   .obtain⟨j,d,a,c⟩:=ou e;exact⟨j+1,by simp;lia,by rw[a];rfl,by rw[c,show i+1+j=i+(j+1) by lia]⟩
  .obtain⟨j,d,a,c⟩:=ou h;exact⟨j+1,by simp;lia,by rw[a];rfl,by rw[c,show i+1+j=i+(j+1) by lia]⟩
theorem tD {rs:List (List Int)}{u:List Int}:∀(bs:List Int) (i:Nat),(gK rs u i bs).length<=bs.length
 | [],_=>by unfold gK;simp
 | x::bs,i=>by unfold gK;have:=tD (rs:=rs) (u:=u) bs (i+1);split <;> simp <;> lia
def uN (rs:List (List Int)) (i:Nat):List Int->Nat->Int
 | [],_=>0
 | c::cs,j=>c*(rs.getD j []).getD i 0+uN rs i cs (j+1)
def Kz (u:List Int) (rs:List (List Int)) (c:List Int):List Int:=(P0 u.length).map λi=>u.getD i 0+uN rs i c 0
def RB (c:List Int) (i:Nat):List Int:=c.set i (c.getD i 0+1)
theorem zA (rs:List (List Int)) (i:Nat):∀(c:List Int) (j k:Nat),k<c.length->uN rs i (RB c k) j=uN rs i c j+(rs.getD (j+k) []).getD i 0
 | [],_,_,h=>by simp at h
 | x::c,j,0,_=>by
  show (x+1)*_+uN rs i c (j+1)=x*_+uN rs i c (j+1)+_;rw[Int.add_mul];simp;lia
 | x::c,j,k+1,h=>by have a:=zA rs i c (j+1) k (by simpa using h);show x*_+uN rs i (RB c k) (j+1)=x*_+uN rs i c (j+1)+_;rw[a,show j+1+k=j+(k+1) by lia];lia
def MY {n:Nat}{u c:List Int}{rs:List (List Int)}{k:Nat} (d:u.length=n) (g:c.length=n) (e:jx n 5 rs) (f:k<n):Kz u rs (RB c k)=fB (Kz u rs c) (rs.getD k []):=by
 have a:=e.at f;have l1:(Kz u rs c).length=n:=by unfold Kz;simp[d]
 apply fg;intro i;unfold fB;rw[DZ];unfold Kz;rw[w6,w6];by_cases b:i<n
 .rw[Gc (by lia)];rw[j4 (l:=rs.getD k []) (by rw[a.len];exact b)];simp only[dj];rw[zA rs i c 0 k (by lia),U9];congr 1;rw[show (rs.getD k []).getD i 0=(rs.getD k [])[i]'(by rw[a.len];exact b) by rw[E5 (l:=rs.getD k []),j4 (by rw[a.len];exact b)];rfl];lia
 .rw[au (by simp;lia)];simp
theorem vH (rs:List (List Int)) (i:Nat):∀(n j:Nat),uN rs i (cG n 0) j=0
 | 0,_=>rfl
 | n+1,j=>by show (0:Int)*_+uN rs i (cG n 0) (j+1)=0;rw[vH rs i n (j+1)];lia
def JZ (u:List Int) (rs:List (List Int)) (n:Nat):Kz u rs (cG n 0)=u:=by
 unfold Kz;apply fg;intro i;rw[w6];by_cases a:i<u.length
 .rw[Gc a,dj,vH,E5,j4 a];simp
 .rw[au (by simp;lia),au (by lia)];rfl
end Md
namespace L2
open PySem PySem.Spec PyProof.Rows
abbrev lit (t:Addr):Obj:={ cls:=.type "list_iterator",data:=.fields #[.ref t,.int 0 0] }
section
variable {X:Cx}
end
section
variable {X:Cx}{K:m9}
end
section
variable {prog:j0}{w:w5}{A:A3}{E:b9->d9->Prop}{s:d9}
end
section
variable {X:Cx}
end
def QH {B:DJ}{P:j0}{w:w5}{K:m9}{mg:Str->Option b9}{d:Heap}{f:Addr}{name c:Str}{g:fE}{body:List Stmt}{scope:O9}{R kV p T h ct oc:b9}{U od:Option Addr}
  {C:Array (Option b9)}{N ps:List Str}{sp:Sp} (lk:K.lookup f=some ⟨oc,od,.func (dB name c g body scope R kV p T U h ct),C⟩) (D:ic K h c=true) (S:C6 N ps scope)
  (len:∀vs H Q E,sp vs H Q E->vs.length=ps.length)
  (k:∀(A:A3) (a:List Env) (s:d9) (H:Hp) (vs:List V) (Q:VK) (E:XK),sp vs H Q E ->
   ∃t,ur (gw B P w K mg d N c scope f h A a s H E) body t/\t { nx:=λ_ j=>Q .non j,rt:=Q } (start N vs) H):
  K6 P w K mg d B 0 f (dB name c g body scope R kV p T U h ct) ps sp:=by
 refine⟨len,λA a s H X us vs Q E Y e0 hb r z=>?_⟩;have hl:=len _ _ _ _ z;have Z:K.In s.heap:=e0.mod.kin.keeps λb o e=>(e0.bs b o e).1;have L:s.heap.NoLimit:=e0.mod.nolimit.keeps λb o e=>(e0.bs b o e).1;have l:∀y∈ps.zip us,scope.names.lookup y.1=some .local ∨ (scope.names.lookup y.1=some .cell/\((T7 (s.heap.objs.size+1) scope.names []).lookup y.1).isSome=true):=λ⟨n,v⟩ hy=>by
  obtain q|q:=S.par n (lW hy).1
  .exact .inl q
  .exact .inr ⟨q,vV _ _ _ (.inl q)⟩
 refine Nm Y.depth (Z _ _ lk) rfl S.co S.gen rfl (W.codeRec_of Z D) (hb _ _ _ _ ?_);refine DK S.kind l λa0 he s1 x=>?_;subst he;refine⟨L.keeps x.toInCall.keep,codeAny_func ?_⟩;obtain⟨t,ht,hq⟩:=k A a s H vs Q E z;have I:D1 (gw B P w K mg d N c scope f h A a s H E) [] (start N vs) H s1:=vD S Y.hd e0 hl r x;refine C4 (ht [] s1 (start N vs) H _ I hq) (λfl M m=>?_) λe M m=>m;have fin:∀{i:St}{j:Hp}{v:V}{u:b9},D1 (gw B P w K mg d N c scope f h A a s H E) [] i j M->K3 v u->Q v j->CE a P w H s Q u M :=
  λ{i j v u} J O q=>⟨v,j,J.os,J.bare,J.base,J.hok,O,q⟩
 cases fl with
 | ret u =>
  obtain⟨v,i,j,J,O,q⟩:=m;exact fin J O q
 | next =>
  obtain⟨i,j,J,q⟩:=m;exact fin (v:=V.non) (u:=B4) J rfl q
 | brk =>
  obtain⟨_,_,_,q⟩:=m;exact G3 q
 | cont =>
  obtain⟨_,_,_,q⟩:=m;exact G3 q
def aU.ok0 {P:j0}{w:w5}{K:m9}{mg:Str->Option b9}{b:Heap}{x c:Str}{st:Stmt}{f:Addr}{j:C5}{N ps:List Str}{sp:Sp} (F:aU K x c st f j) (S:C6 N ps (A0 st)) (len:∀vs H Q E,sp vs H Q E->vs.length=ps.length)
  (d:∀(e:b9) (A:A3) (a:List Env) (s:d9) (H:Hp) (vs:List V) (Q:VK) (E:XK),sp vs H Q E ->
   ∃t,ur (gw ee P w K mg b N c (A0 st) f e A a s H E).nox (Z4 st) t/\t { nx:=λ_ k=>Q .non k,rt:=Q } (start N vs) H):K6 P w K mg b ee 0 f j ps sp:=by
 obtain⟨n,o,kV,l,p,r,e,u,m,rfl,lk,g⟩:=F.ex;refine QH lk g S len λA a s H vs Q E i=>?_;obtain⟨t,h,q⟩:=d e A a s H vs Q E i;exact⟨t,h.nox,q⟩
section
variable {X:Cx}
end
end L2
namespace G
open PySem PySem.Spec PyProof.Rows L2 Mt
def top (i:Nat):Stmt:=PySem.Challenge.pw_growurns_k96_names_and_many_urns_at_a_de.main.body.getD i (.Pass ⟨0,0,0,0⟩)
structure Bt (mg:Str->Option b9):Prop where
 isinstance:mg "isinstance"=none
 bool:mg "bool"=none
 int:mg "int"=none
 tuple:mg "tuple"=none
 list:mg "list"=none
 all:mg "all"=none
 sum:mg "sum"=none
 len:mg "len"=none
 range:mg "range"=none
 max:mg "max"=none
 min:mg "min"=none
 abs:mg "abs"=none
 zip:mg "zip"=none
def cD (lo a:Int):E7->Bool
 | .int i=>decide (lo<=i)&&decide (i<=a)
 | _=>false
section
variable {P:j0}{w:w5}{K:m9}{mg:Str->Option b9}{base:Heap}{f:Addr}{fd:C5}
def numD:E7->Bool
 | .int _=>true
 | _=>false
def jL:Sp:=λa H Q _=>∃(v:V) (st:Addr) (d:E7),a=[v]/\Dt st H d v/\Q (.bl (numD d)) H
abbrev kP:Stmt:=top 13
def wD:C6 ["thing"] ["thing"] (A0 kP):=aS
def xg (F:aU K "is_number" "is_number" kP f fd) (B:Bt mg):K6 P w K mg base ee 0 f fd ["thing"] jL:=by
 refine F.ok0 wD (λe H Q E h=>?_) (λg A a s H e Q E h=>?_)
 .obtain⟨v,st,d,rfl,_⟩:=h;rfl
 obtain⟨v,st,d,rfl,c,q⟩:=h;refine⟨_,u6 (C8 (sJ (D4 (lh Mx) rfl B.isinstance K1 (b8 (pv 0) (b8 (pJ rfl B.int boot_int) i3)))
  (sH (PH (D4 (lh Js) rfl B.isinstance K1 (b8 (pv 0) (b8 (pJ rfl B.bool boot_bool) i3))))))),?_⟩
 refine⟨_,rfl,v,st,d,rfl,c,_,rfl,?_⟩;cases d with
 | bool b=>exact⟨_,rfl,v,st,_,rfl,c,_,rfl,q⟩
 | int i=>exact⟨_,rfl,v,st,_,rfl,c,_,rfl,q⟩
 | none=>exact q
 | str x=>exact q
 | list j=>exact q
 | tuple j=>exact q
 | dict k=>exact q
def iz:Sp:=λb H Q _=>∃(v:V) (st:Addr) (d:E7) (lo a:Int),b=[v,.int lo,.int a]/\Dt st H d v/\Q (.bl (cD lo a d)) H
abbrev mM:Stmt:=top 14
def yC:C6 ["thing","low","high"] ["thing","low","high"] (A0 mM):=aS
def yQ (F:aU K "is_whole" "is_whole" mM f fd) (c1:Y1 P w K mg base 0 "is_number" ["thing"] jL):K6 P w K mg base ee 1 f fd ["thing","low","high"] iz:=by
 refine F.ok yC (λk H Q E h=>?_) (λl A e s H k Q E m h=>?_)
 .obtain⟨v,st,d,lo,g,rfl,_⟩:=h;rfl
 obtain⟨v,st,d,lo,g,rfl,j,q⟩:=h;refine⟨_,u6 (C8 (sJ (D9 c1 m rfl (b8 (pv 0) i3)) (sH (sI vp vp (pv 1) (pv 0) (pv 2))))),?_⟩;refine⟨_,rfl,v,st,d,rfl,j,_,rfl,?_⟩;cases d with
 | int i =>
  refine aA ?_;unfold Dt at j;subst j;refine⟨_,rfl,_,rfl,lo,i,rfl,rfl,_,rfl,?_⟩;have a:Q (.bl (decide (lo<=i)&&decide (i<=g))) H:=q;by_cases c:lo<=i
  .rw[ZA c,T8] at a;rw[ZA c];exact aA ⟨_,rfl,i,g,rfl,rfl,a⟩
  .rw[Zz c,X5] at a;rw[Zz c];exact Z8 a
 | bool b=>exact q
 | none=>exact q
 | str x=>exact q
 | list n=>exact q
 | tuple n=>exact q
 | dict o=>exact q
def X1 (lo a:Int):E7->Bool
 | .tuple b=>b.all (cD lo a)
 | _=>false
def fi:Sp:=λe H Q _=>∃(v:V) (st:Addr) (d:E7) (lo a:Int),e=[v,.int lo,.int a]/\Dt st H d v/\(∀b,d=.tuple b->b.length<=1000)/\∀c,u7 H c->Q (.bl (X1 lo a d)) c
abbrev jM:Stmt:=top 15
def uD:C6 ["thing","low","high"] ["thing","low","high"] (A0 jM):=aS
def uE (F:aU K "are_wholes" "are_wholes" jM f fd) (B:Bt mg) (c1:Y1 P w K mg base 1 "is_whole" ["thing","low","high"] iz):K6 P w K mg base ee 2 f fd ["thing","low","high"] fi:=by
 refine F.ok uD (λC H Q E h=>?_) (λD A r s H C Q E I h=>?_)
 .obtain⟨v,st,d,lo,b,rfl,_⟩:=h;rfl
 obtain⟨v,st,d,lo,b,rfl,t,J,q⟩:=h;refine⟨_,u6 (C8 (sJ (D4 (lh Di) rfl B.isinstance K1 (b8 (pv 0) (b8 (pJ rfl B.tuple Z6) i3)))
  (sH (D4 (jU rfl) rfl B.all boot_all (b8 (Q2 (N:=["part","low","high"]) (ix:=[none,some 1,some 2]) (ifs:=[]) (tc:=ag) rfl (mP (pv 0))
   (λs H y=>dq (i:=0) (by decide) rfl (B6 rfl) (.inr rfl)) (λs H y=>P5) (λs H y=>D9 c1 I rfl (b8 (pv 0) (b8 (pv 1) (b8 (pv 2) i3)))) rfl (by decide) (by rfl) (by rfl) (λ_=>rfl)) i3))))),?_⟩
 refine⟨_,rfl,v,st,d,rfl,t,_,rfl,?_⟩;cases d with
 | tuple c =>
  refine aA ?_;obtain⟨a,g,rfl,ne,z,j⟩:∃a g,v=.ref a/\a≠st/\H a=some (.tup g)/\Z5 st H c g:=by unfold Dt at t;exact t
  have k:=j.len;have L:=J c rfl;refine⟨_,rfl,a,rfl,⟨g,.of z⟩,jV (K:=K) (a:=a) (xs:=g) (sz (by lia)) (λi l m=>u7 H m/\i<=c.length/\l=(c.take i).map λd=>V.bl (cD lo b d)) ⟨u7.refl H,A6 _,rfl⟩ (λi l m h=>?_) (λi l m _ h=>.of (h.1 _ _ z)) rfl (λi l m x M h=>?_) (λl m h=>?_)⟩
  .obtain⟨_,b,rfl⟩:=h;rw[d8,B0];lia
  .obtain⟨o,u,rfl⟩:=h;obtain⟨d,n,N⟩:=j.get M;refine⟨_,rfl,_,rfl,_,rfl,x,st,d,lo,b,rfl,N.kp (o.kp st),o,(ZW.mp n).1,?_⟩;rw[D8,n,v9];rfl
  .obtain⟨o,u,rfl⟩:=h;intro p O;refine⟨p,_,rfl,.inl (.of j3),?_,?_⟩
   .rw[Z3];exact kF.mpr λ_ _=>rfl
   .have e:(((c.take g.length).map λd=>V.bl (cD lo b d)).all AA)=X1 lo b (.tuple c):=by rw[<- k,M6,Z3];rfl
    rw[e];exact q _ (o.trans (u7.new O))
 | _=>exact q H (u7.refl H)
end
structure Ct (mg:Str->Option b9):Prop where
 kinds:∃t,mg "MOST_KINDS"=some (.int 4 t)
 balls:∃t,mg "MOST_BALLS"=some (.int 20 t)
 puts:∃t,mg "MOST_PUT_IN"=some (.int 5 t)
variable {H:Hp}
def _root_.L2.Dt.untup {st:Addr}{ds:List E7}{v:V} (h:Dt st H (.tuple ds) v):∃a b,v=.ref a/\a≠st/\H a=some (.tup b)/\Z5 st H ds b:=by unfold Dt at h;exact h
def _root_.L2.Dt.unint {st:Addr}{i:Int}{v:V} (h:Dt st H (.int i) v):v=.int i:=by unfold Dt at h;exact h
def mG{lo a:Int} (h:cD lo a d=true):∃i,d=.int i/\lo<=i/\i<=a:=by
 cases d with
 | int i =>
  have b:(decide (lo<=i)&&decide (i<=a))=true:=h;rw[A4] at b;exact⟨i,rfl,Zx b.1,Zx b.2⟩
 | _=>cases (show false=true from h)
theorem zK {lo a:Int}:∀{ds:List E7},ds.all (cD lo a)=true->∃ns:List Int,ds=ns.map .int/\∀x∈ns,lo<=x/\x<=a
 | [],_=>⟨[],rfl,by simp⟩
 | d::ds,h=>by
  rw[kc,A4] at h;obtain⟨i,e,b,c⟩:=mG h.1;obtain⟨ns,e2,f⟩:=zK h.2;subst e e2;exact⟨i::ns,rfl,λx g=>by
   obtain z|z:=C7.mp g
   .subst z;exact⟨b,c⟩
   .exact f x z⟩
def gq{lo a:Int} (h:X1 lo a d=true):∃ns:List Int,d=DI ns/\∀x∈ns,lo<=x/\x<=a:=by
 cases d with
 | tuple b =>
  obtain⟨ns,e,c⟩:=zK (ds:=b) h;subst e;exact⟨ns,rfl,c⟩
 | _=>cases (show false=true from h)
def QA:E7->Int
 | .int i=>i
 | _=>0
def il:E7->Nat
 | .tuple a=>a.length
 | _=>0
def Ss:E7->Int
 | .tuple a=>(a.map QA).sum
 | _=>0
def we (ns:List Int):Ss (DI ns)=ns.sum:=by
 show ((ns.map ir).map QA).sum=ns.sum;rw[R8];have e:(QA ∘ ir)=id:=by funext i;rfl
 rw[e,FO]
def gu (ns:List Int):il (DI ns)=ns.length:=by show (ns.map ir).length=_;rw[d8]
def aO (m:Int) (d:E7):Bool:=X1 0 m d&&((decide ((1:Int)<=il d)&&decide ((il d:Int)<=4))&&decide ((0:Int)<Ss d))
def aD (k:Int) (d:E7):Bool:=match d with
 | .tuple a=>decide ((a.length:Int)=k)&&a.all (λr=>X1 0 5 r&&decide ((il r:Int)=k))
 | _=>false
def js (d:E7):Prop:=∀a,d=.tuple a->a.length<=1000
section
variable {P:j0}{w:w5}{K:m9}{mg:Str->Option b9}{base:Heap}{f:Addr}{fd:C5}
def fJ:Sp:=λb H Q _=>∃(v:V) (st:Addr) (d:E7) (m:Int),b=[v,.int m]/\Dt st H d v/\js d/\∀a,u7 H a->Q (.bl (aO m d)) a
abbrev gQ:Stmt:=top 27
def qO:C6 ["thing","most"] ["thing","most"] (A0 gQ):=aS
def qS (F:aU K "is_urn_up_to" "is_urn_up_to" gQ f fd) (B:Bt mg) (C:Ct mg) (c1:Y1 P w K mg base 2 "are_wholes" ["thing","low","high"] fi):K6 P w K mg base ee 3 f fd ["thing","most"] fJ:=by
 refine F.ok qO (λo H Q E h=>?_) (λp A j s H o Q E r h=>?_)
 .obtain⟨v,st,d,m,rfl,_⟩:=h;rfl
 obtain⟨v,st,d,m,rfl,l,t,q⟩:=h;obtain⟨u,x⟩:=C.kinds;refine⟨_,m8 (R3 (eP (eO (D9 c1 r rfl (b8 (pv 0) (b8 A7 (b8 (pv 1) i3)))))) (u6 (C8 fQ)) G0)
  (u6 (C8 (sJ (sI vp vp A7 (D4 R1 rfl B.len J8 (b8 (pv 0) i3)) (Q8 (v:=.int 4) rfl x ⟨u,rfl⟩))
   (sH (wY IA (D4 (dP rfl) rfl B.sum DQ (b8 (pv 0) i3)) A7 (N2 _)))))),?_⟩
 refine⟨_,rfl,_,rfl,v,st,d,0,m,rfl,l,t,λy n=>⟨_,rfl,?_⟩⟩;have b:=q y n;unfold aO at b;cases k:X1 0 m d with
 | false =>
  rw[k,X5] at b;exact aA b
 | true =>
  rw[k,T8] at b;refine Z8 ?_;obtain⟨ns,e,z⟩:=gq k;subst e;obtain⟨a,e,ne,D⟩:=l.di;subst e;rw[gu,we] at b;have c:=n _ _ D;refine⟨_,rfl,a,_,rfl,.inr (.of c),_,_,rfl,rfl,_,rfl,?_⟩;rw[d8];by_cases g:(1:Int)<=(ns.length:Int)
  .rw[ZA g,T8] at b;rw[ZA g];refine aA ⟨_,_,rfl,rfl,_,rfl,?_⟩;by_cases i:(ns.length:Int)<=4
   .rw[ZA i,T8] at b;rw[ZA i];exact aA ⟨_,rfl,a,ns,rfl,.inr (.of c),_,_,rfl,rfl,b⟩
   .rw[Zz i,X5] at b;rw[Zz i];exact Z8 b
  .rw[Zz g,X5,X5] at b;rw[Zz g];exact Z8 ⟨_,rfl,Z8 b⟩
def jo:Sp:=λb H Q _=>∃(v:V) (st:Addr) (d:E7),b=[v]/\Dt st H d v/\js d/\∀a,u7 H a->Q (.bl (aO 20 d)) a
abbrev su:Stmt:=top 26
def Es:C6 ["thing"] ["thing"] (A0 su):=aS
def ED (F:aU K "is_urn" "is_urn" su f fd) (C:Ct mg) (c1:Y1 P w K mg base 3 "is_urn_up_to" ["thing","most"] fJ):K6 P w K mg base ee 4 f fd ["thing"] jo:=by
 refine F.ok Es (λb H Q E h=>?_) (λc A a s H b Q E e h=>?_)
 .obtain⟨v,st,d,rfl,_⟩:=h;rfl
 obtain⟨v,st,d,rfl,g,i,q⟩:=h;obtain⟨j,k⟩:=C.balls;refine⟨_,u6 (C8 (D9 c1 e rfl (b8 (pv 0) (b8 (Q8 (v:=.int 20) rfl k ⟨j,rfl⟩) i3)))),?_⟩;exact⟨_,rfl,v,st,d,20,rfl,g,i,q⟩
def bU (c:Nat->Addr):Sp:=λb H Q E=>∃(v:V) (st:Addr) (d:E7) (lo a:Int),b=[v,.int lo,.int a]/\Dt st H d v/\Sm lo/\Sm a/\(cD lo a d=true->Q .non H)/\(cD lo a d=false->E (.ref (c 5)) none H)
abbrev iU:Stmt:=top 16
def sm:C6 ["thing","low","high"] ["thing","low","high"] (A0 iU):=aS
def sL {c:Nat->Addr}{B:Addr} (F:aU K "need_number" "need_number" iU f fd) (R:oJ K mg c B) (c1:Y1 P w K mg base 1 "is_whole" ["thing","low","high"] iz):K6 P w K mg base (fO P w) 2 f fd ["thing","low","high"] (bU c):=by
 refine F.okX sm (λj H Q E h=>?_) (λk A g s H j Q E l h=>?_)
 .obtain⟨v,st,d,lo,e,rfl,_⟩:=h;rfl
 obtain⟨v,st,d,lo,e,rfl,n,a,b,o,p⟩:=h;refine⟨_,u6 (R3 (eP (eO (D9 c1 l rfl (b8 (pv 0) (b8 (pv 1) (b8 (pv 2) i3)))))) (u6 (aL R.e5 (R.xc 5 (by decide)) (wV (pI (wQ (pv 1) (pI (wQ (pv 2) Bj))))) (λy H Q C m q=>?_))) G0),?_⟩
 .obtain⟨r,z1,t,z2,z3,z4,u,z5,x,z6,z7,z8,z9⟩:=q;exact⟨r,z1,t,z2,z3,z4,u,z5,x,z6,z7,z8,λz=>m _ _ (z9 z)⟩
 refine⟨_,rfl,_,rfl,_,rfl,v,st,d,lo,e,rfl,n,_,rfl,?_⟩;cases i:cD lo e d with
 | true=>exact Z8 (o i)
 | false=>exact aA ⟨_,rfl,lo,rfl,a.1,a.2,_,rfl,e,rfl,b.1,b.2,λz=>p i⟩
def jK (c:Nat->Addr):Sp:=λg H Q E=>∃(u v:V) (st:Addr) (a d:E7),g=[u,v]/\Dt st H a u/\(cD 1 4 a=false->E (.ref (c 5)) none H) /\
 (∀k,a=.int k->1<=k->k<=4->Dt st H d v/\js d/\(∀b,d=.tuple b->∀r∈b,js r)/\∀e,u7 H e->Q (.bl (aD k d)) e)
abbrev pD:Stmt:=top 28
def AV:C6 ["kinds","thing"] ["kinds","thing"] (A0 pD):=aS
def sm1:Sm 1:=by unfold Sm;decide
def sm4:Sm 4:=by unfold Sm;decide
def Bq {c:Nat->Addr} (F:aU K "is_rule" "is_rule" pD f fd) (B:Bt mg) (C:Ct mg) (c1:Y1 P w K mg base 2 "are_wholes" ["thing","low","high"] fi) (c2:Z9 P w K mg base 2 "need_number" ["thing","low","high"] (bU c)):K6 P w K mg base (fO P w) 3 f fd ["kinds","thing"] (jK c):=by
 refine F.okX AV (λvs H Q E h=>?_) (λa0 A N s H vs Q E U h=>?_)
 .obtain⟨u,v,st,X,d,rfl,_⟩:=h;rfl
 obtain⟨u,v,st,X,d,rfl,Y,qE,qQ⟩:=h;obtain⟨tk,hk⟩:=C.kinds;obtain⟨tp,O⟩:=C.puts;refine⟨_,m8 (aw (Q9 c2 U rfl U7 (b8 (pv 0) (b8 A7 (b8 (Q8 (v:=.int 4) rfl hk ⟨tk,rfl⟩) i3)))))
  (ur.nox (m8 (R3 (PW.pt (vj (eP (eO (D4 (lh Di) rfl B.isinstance K1 (b8 (pv 1) (b8 (pJ rfl B.tuple Z6) i3)))))
   (pF (J1 iB (D4 R1 rfl B.len J8 (b8 (pv 1) i3)) (pv 0) (N2 _))))) (u6 (C8 fQ)) G0)
  (u6 (C8 (D4 (jU rfl) rfl B.all boot_all (b8 (Q2 (N:=["row","kinds"]) (ix:=[none,some 0]) (ifs:=[]) (tc:=ag) rfl (mP (pv 1))
   (λs H Z=>dq (i:=0) (by decide) rfl (B6 rfl) (.inr rfl)) (λs H Z=>P5)
   (λs H Z=>sJ (D9 c1 U rfl (b8 (pv 0) (b8 A7 (b8 (Q8 (v:=.int 5) rfl O ⟨tp,rfl⟩) i3)))) (sH (wY eg (D4 (lenK (K:=K) rfl) rfl B.len J8 (b8 (pv 0) i3)) (pv 1) (N2 _)))) rfl (by decide) (by rfl) (by rfl) (λ_=>rfl)) i3)))))),?_⟩
 refine⟨_,rfl,u,st,X,1,4,rfl,Y,sm1,sm4,λy=>?_,qE⟩;obtain⟨k,e,k1,k4⟩:=mG y;subst e;obtain rfl:=Y.unint;obtain⟨hd,hl,R,q⟩:=qQ k rfl k1 k4;refine⟨_,rfl,v,st,d,rfl,hd,_,rfl,?_⟩;cases d with
 | tuple j =>
  obtain⟨a,o,e,ne,S,z⟩:=hd.untup;subst e;have l:=z.len;have a1:=hl j rfl;refine Z8 ⟨_,rfl,a,o,rfl,.inr (.of S),_,rfl,rfl,_,rfl,?_⟩;have T:=λt g=>q t g;unfold aD at T;by_cases m:(j.length:Int)=k
  .have e1:V.int (o.length:Int)=V.int k:=by rw[<- l,m]
   rw[ZA e1];refine Z8 ?_;have q1:∀t,u7 H t->Q (.bl (j.all (λr=>X1 0 5 r&&decide ((il r:Int)=k)))) t:=λt g=>by have:=T t g;simp only[ZA m,T8] at this;exact this
   refine⟨_,rfl,a,rfl,⟨o,.of S⟩,jV (K:=K) (a:=a) (xs:=o) (sz (by lia)) (λi D I=>u7 H I/\i<=j.length/\D=(j.take i).map λr=>V.bl (X1 0 5 r&&decide ((il r:Int)=k))) ⟨u7.refl H,A6 _,rfl⟩ (λi D I h=>?_) (λi D I _ h=>.of (h.1 _ _ S)) rfl (λi D I x hx h=>?_) (λD I h=>?_)⟩
   .obtain⟨_,J,rfl⟩:=h;rw[d8,B0];lia
   .obtain⟨M,J,rfl⟩:=h;obtain⟨d,n,dt⟩:=z.get hx;have L:=dt.kp (M.kp st);refine⟨_,rfl,x,st,d,0,5,rfl,L,R j rfl d (r0 n),λH3 g3=>⟨_,rfl,?_⟩⟩;have fin:∀b:Bool,b=(X1 0 5 d&&decide ((il d:Int)=k))->u7 H H3/\i+1<=j.length/\((j.take i).map λr=>V.bl (X1 0 5 r&&decide ((il r:Int)=k)))++[V.bl b]=(j.take (i+1)).map λr=>V.bl (X1 0 5 r&&decide ((il r:Int)=k)):=λb e=>by subst e;refine⟨M.trans g3,(ZW.mp n).1,?_⟩;rw[D8,n,v9];rfl
    cases y:X1 0 5 d with
    | false=>exact Z8 (fin false (by rw[y];rfl))
    | true =>
     obtain⟨ns,e,_⟩:=gq y;subst e;obtain⟨b,e,_,hb⟩:=L.di;subst e;refine aA ⟨_,rfl,b,_,rfl,.inr (.of (g3 _ _ hb)),_,rfl,rfl,?_⟩;refine fin _ ?_;rw[y,T8,gu,d8];rw[decide_eq_decide];constructor
     .intro e;injection e
     .intro e;rw[e]
   .obtain⟨M,J,rfl⟩:=h;intro p O;refine⟨p,_,rfl,.inl (.of j3),?_,?_⟩
    .rw[Z3];exact kF.mpr λ_ _=>rfl
    .have e:(((j.take o.length).map λr=>V.bl (X1 0 5 r&&decide ((il r:Int)=k))).all AA)=j.all (λr=>X1 0 5 r&&decide ((il r:Int)=k)):=by rw[<- l,M6,Z3];rfl
     rw[e];exact q1 _ (M.trans (u7.new O))
  .have e1:¬ V.int (o.length:Int)=V.int k:=λe=>m (by rw[l];injection e);rw[Zz e1];refine aA ?_;have:=T H (u7.refl H);simp only[Zz m,X5] at this;exact this
 | _=>exact aA (aA (q H (u7.refl H)))
end
def MV:aV "ValueError"=some (.type "ValueError"):=by decide
def Fo (i:Nat):List Bool:=[decide (i=0),decide (i=1),decide (i=2),decide (i=3),decide (i=4),decide (i=5),decide (i=6),decide (i=7),decide (i=8),decide (i=9)]
def xw (i:Nat):(Fo i).length=10:=rfl
def QP (i:Nat):(Fo i).length<=j6:=by rw[xw];decide
def QO:∀i:Nat,i<10->((Fo i).map (λb=>if b then (1:Int) else 0)).sum=1:=by decide
def NW:∀i:Nat,i<10->(Fo i)[i]?=some true/\∀m,m<i->(Fo i)[m]?=some false:=by decide
section
variable {P:j0}{w:w5}{K:m9}{mg:Str->Option b9}{base:Heap}{f:Addr}{fd:C5}
def outV:Option Nat->V
 | none=>.non
 | some i=>.int i
def Out (c:Nat->Addr) (H:Hp) (Q:VK) (E:XK):Option Nat->Prop
 | none=>∀v a,u7 H a->Q v a
 | some i=>∀a,u7 H a->E (.ref (c i)) none a
def jI (P:j0) (w:w5) (K:m9) (mg:Str->Option b9) (base:Heap) (k:Nat) (c:Nat->Addr):Sp:=λj H Q _=>∃(b:Addr) (a:Sp) (d:Obj) (fd:C5) (o:Option Nat),j=[.ref b]/\H b=some (KN d)/\d.data=.func fd /\
 mC fd ⟨[],[]⟩=pure []/\K6 P w K mg base (fO P w) k b fd [] a/\(∀i,o=some i->i<10)/\(∀e g,Out c H e g o->a [] H e g)/\∀h,u7 H h->Q (outV o) h
abbrev pB:Stmt:=top 72
def eK:C6 ["_law_call","_law_error","e","_law_sorts"] ["_law_call"] (A0 pB):=aS
def Bo {c:Nat->Addr}{Bs:Addr}{k:Nat} (FF:aU K "_law_refused" "_law_refused" pB f fd) (B:Bt mg) (R:oJ K mg c Bs) (a1:mg "ValueError"=none):K6 P w K mg base ee (k+1) f fd ["_law_call"] (jI P w K mg base k c):=by
 refine FF.ok eK (λvs H Q E h=>?_) (λac A a2 s H vs Q E hr h=>?_)
 .obtain⟨fa,X,fo,fd,o,rfl,_⟩:=h;rfl
 obtain⟨fa,X,fo,a3,o,rfl,kn,a4,a5,FL,ho,a6,q⟩:=h;refine⟨_,m8 (F7 (i:=1) eK.nd rfl (B6 rfl) wU)
  (m8 (LK (k:=k) (iC:=0) (iE:=2) (iR:=1) rfl rfl hr eK.nd rfl (B6 rfl) rfl rfl rfl rfl (by decide) rfl R.eb R.bb)
  (m8 (R3 (Bh (PN (pv 1))) (u6 (C8 wU)) G0)
  (m8 (F7 (i:=3) eK.nd rfl (B6 rfl) (S0 (b8 (D4 bX rfl B.isinstance K1 (b8 (pv 1) (b8 (Q8 (v:=.ref (c 0)) rfl R.e0 rfl) i3)))
   (b8 (D4 bX rfl B.isinstance K1 (b8 (pv 1) (b8 (Q8 (v:=.ref (c 1)) rfl R.e1 rfl) i3))) (b8 (D4 bX rfl B.isinstance K1 (b8 (pv 1) (b8 (Q8 (v:=.ref (c 2)) rfl R.e2 rfl) i3))) i3)))))
  (m8 (F7 (i:=3) eK.nd rfl (B6 rfl) (y8 bV (pv 3) (S0 (b8 (D4 bX rfl B.isinstance K1 (b8 (pv 1) (b8 (Q8 (v:=.ref (c 3)) rfl R.e3 rfl) i3)))
   (b8 (D4 bX rfl B.isinstance K1 (b8 (pv 1) (b8 (Q8 (v:=.ref (c 4)) rfl R.e4 rfl) i3))) (b8 (D4 bX rfl B.isinstance K1 (b8 (pv 1) (b8 (Q8 (v:=.ref (c 5)) rfl R.e5 rfl) i3))) i3))))))
  (m8 (F7 (i:=3) eK.nd rfl (B6 rfl) (y8 bV (pv 3) (S0 (b8 (D4 bX rfl B.isinstance K1 (b8 (pv 1) (b8 (Q8 (v:=.ref (c 6)) rfl R.e6 rfl) i3)))
   (b8 (D4 bX rfl B.isinstance K1 (b8 (pv 1) (b8 (Q8 (v:=.ref (c 7)) rfl R.e7 rfl) i3))) (b8 (D4 bX rfl B.isinstance K1 (b8 (pv 1) (b8 (Q8 (v:=.ref (c 8)) rfl R.e8 rfl) i3))) i3))))))
  (m8 (aw (cz O1 Q7 Q6 eT (pv 3) (b8 (D4 bX rfl B.isinstance K1 (b8 (pv 1) (b8 (Q8 (v:=.ref (c 9)) rfl R.e9 rfl) i3))) i3)))
  (m8 (R3 (PW.pt (vj (eP (eO (D4 bX rfl B.isinstance K1 (b8 (pv 1) (b8 (pJ rfl a1 MV) i3)))))
   (pF (J1 iB (D4 (dP rfl) rfl B.sum DQ (b8 (Q2 (N:=["_law_one"]) (ix:=[none]) (ifs:=[]) (tc:=ag) rfl (cQ (pv 3))
    (λs H ex=>dq (i:=0) (by decide) rfl (B6 rfl) (.inr rfl)) (λs H ex=>P5) (λs H ex=>G9 vJ rfl B.int boot_int (b8 (pv 0) i3)) rfl (by decide) (by rfl) (by rfl) (λ_=>rfl)) i3)) A7 (N2 _)))))
   (u6 (C8 (SN OA A7))) G0)
  (u6 (C8 (cz O1 PySem.F.slot_list_index PySem.F.type_list_index EI (pv 3) (b8 fQ i3))))))))))),?_⟩
 refine⟨fa,X,rfl,⟨fo,a3,kn,a4,a5,FL⟩,a6 _ _ ?_⟩;cases o with
 | none=>exact λv Y g1=>⟨_,rfl,_,rfl,aA (q Y g1)⟩
 | some i =>
  have d:=ho i rfl;intro Y g1;refine⟨c i,rfl,R.sub i d,λa e x na=>?_⟩;have g2:u7 H (C3 Y a (KN e)):=g1.trans (u7.new na);have n:C3 Y a (KN e) a=some (KN e):=j3;generalize C3 Y a (KN e)=y at g2 n;refine⟨_,rfl,_,rfl,Z8 ?_⟩;refine⟨_,rfl,a,e,c i,_,_,_,rfl,n,x,R.xi i d,rfl,R.one i 0 d (by decide),_,rfl,a,e,c i,_,_,_,rfl,n,x,R.xi i d,rfl,R.one i 1 d (by decide),_,rfl,a,e,c i,_,_,_,rfl,n,x,R.xi i d,rfl,R.one i 2 d (by decide),(by show 3<=j6;decide),λp hp=>?_⟩;have ap:a≠p:=A5 n hp;have g3:u7 H (C3 y p (.lst [.bl (decide (i=0)),.bl (decide (i=1)),.bl (decide (i=2))])):=g2.trans (u7.new hp);have g:C3 y p (.lst [.bl (decide (i=0)),.bl (decide (i=1)),.bl (decide (i=2))]) a=some (KN e):=by rw[t9 ap];exact n
  have I:C3 y p (.lst [.bl (decide (i=0)),.bl (decide (i=1)),.bl (decide (i=2))]) p=some (.lst [.bl (decide (i=0)),.bl (decide (i=1)),.bl (decide (i=2))]):=j3;generalize C3 y p (.lst [.bl (decide (i=0)),.bl (decide (i=1)),.bl (decide (i=2))])=H3 at g3 g I;refine⟨_,rfl,_,rfl,a,e,c i,_,_,_,rfl,g,x,R.xi i d,rfl,R.one i 3 d (by decide),_,rfl,a,e,c i,_,_,_,rfl,g,x,R.xi i d,rfl,R.one i 4 d (by decide),_,rfl,a,e,c i,_,_,_,rfl,g,x,R.xi i d,rfl,R.one i 5 d (by decide),(by show 3<=j6;decide),λp2 C=>⟨p,p2,_,_,rfl,rfl,(by rw[t9 (A5 I C)];exact I),j3,(by show 3+3<=j6;decide),λp4 Z=>?_⟩⟩;obtain⟨J,g5,m,a0,e5⟩:∃J,u7 H J/\J a=some (KN e)/\J p4=some (.lst [.bl (decide (i=0)),.bl (decide (i=1)),.bl (decide (i=2)),.bl (decide (i=3)),.bl (decide (i=4)),.bl (decide (i=5))])/\J=C3 (C3 H3 p2 (.lst [.bl (decide (i=3)),.bl (decide (i=4)),.bl (decide (i=5))])) p4 (.lst [.bl (decide (i=0)),.bl (decide (i=1)),.bl (decide (i=2)),.bl (decide (i=3)),.bl (decide (i=4)),.bl (decide (i=5))]):=
   ⟨_,(g3.trans (u7.new C)).trans (u7.new Z),(by rw[t9 (A5 (by rw[t9 (A5 g C)];exact g) Z),t9 (A5 g C)];exact g),j3,rfl⟩
  show pf _ _ _ _ (C3 (C3 H3 p2 (.lst [.bl (decide (i=3)),.bl (decide (i=4)),.bl (decide (i=5))])) p4 (.lst [.bl (decide (i=0)),.bl (decide (i=1)),.bl (decide (i=2)),.bl (decide (i=3)),.bl (decide (i=4)),.bl (decide (i=5))]));rw[<- e5];clear e5;refine⟨_,rfl,_,rfl,a,e,c i,_,_,_,rfl,m,x,R.xi i d,rfl,R.one i 6 d (by decide),_,rfl,a,e,c i,_,_,_,rfl,m,x,R.xi i d,rfl,R.one i 7 d (by decide),_,rfl,a,e,c i,_,_,_,rfl,m,x,R.xi i d,rfl,R.one i 8 d (by decide),(by show 3<=j6;decide),λp5 l=>⟨p4,p5,_,_,rfl,rfl,(by rw[t9 (A5 a0 l)];exact a0),j3,(by show 6+3<=j6;decide),λt L=>?_⟩⟩;have a7:H t=none:=(g5.trans (u7.new l)).free L;obtain⟨M,g6,D,N,e6⟩:∃M,u7 H M/\M a=some (KN e)/\M t=some (.lst [.bl (decide (i=0)),.bl (decide (i=1)),.bl (decide (i=2)),.bl (decide (i=3)),.bl (decide (i=4)),.bl (decide (i=5)),.bl (decide (i=6)),.bl (decide (i=7)),.bl (decide (i=8))])/\M=C3 (C3 J p5 (.lst [.bl (decide (i=6)),.bl (decide (i=7)),.bl (decide (i=8))])) t (.lst [.bl (decide (i=0)),.bl (decide (i=1)),.bl (decide (i=2)),.bl (decide (i=3)),.bl (decide (i=4)),.bl (decide (i=5)),.bl (decide (i=6)),.bl (decide (i=7)),.bl (decide (i=8))]):=
   ⟨_,(g5.trans (u7.new l)).trans (u7.new L),(by rw[t9 (A5 (by rw[t9 (A5 m l)];exact m) L),t9 (A5 m l)];exact m),j3,rfl⟩
  show pf _ _ _ _ (C3 (C3 J p5 (.lst [.bl (decide (i=6)),.bl (decide (i=7)),.bl (decide (i=8))])) t (.lst [.bl (decide (i=0)),.bl (decide (i=1)),.bl (decide (i=2)),.bl (decide (i=3)),.bl (decide (i=4)),.bl (decide (i=5)),.bl (decide (i=6)),.bl (decide (i=7)),.bl (decide (i=8))]));rw[<- e6];clear e6;refine⟨_,rfl,.inl ⟨rfl,_,.of N⟩,_,rfl,a,e,c i,_,_,_,rfl,D,x,R.xi i d,rfl,R.one i 9 d (by decide),t,_,_,rfl,rfl,N,(by show 9<j6;decide),?_⟩;have a8:([.bl (decide (i=0)),.bl (decide (i=1)),.bl (decide (i=2)),.bl (decide (i=3)),.bl (decide (i=4)),.bl (decide (i=5)),.bl (decide (i=6)),.bl (decide (i=7)),.bl (decide (i=8))]++[.bl (decide (i=9))]:List V)=(Fo i).map V.bl:=rfl;show pf _ _ _ _ (C3 M t (.lst ([.bl (decide (i=0)),.bl (decide (i=1)),.bl (decide (i=2)),.bl (decide (i=3)),.bl (decide (i=4)),.bl (decide (i=5)),.bl (decide (i=6)),.bl (decide (i=7)),.bl (decide (i=8))]++[.bl (decide (i=9))])));rw[a8];have a9:a≠t:=λz=>by rw[z,N] at D;cases D
  obtain⟨T,g7,ab,r,e7⟩:∃T,u7 H T/\T a=some (KN e)/\T t=some (.lst ((Fo i).map V.bl))/\T=C3 M t (.lst ((Fo i).map V.bl)):=
   ⟨_,λb u U=>by rw[t9 (λz=>by rw[z,a7] at U;cases U)];exact g6 b u U,by rw[t9 a9];exact D,j3,rfl⟩
  rw[<- e7];clear e7;refine⟨_,rfl,a,e,c i,_,_,_,rfl,ab,x,R.xi i d,rfl,R.val i d,_,rfl,Z8 ?_⟩;refine⟨_,rfl,t,rfl,⟨_,.of r⟩,tX (K:=K) (a:=t) (xs:=(Fo i).map V.bl) (by rw[d8];exact QP i) (λj ys y=>u7 T y/\j<=10/\ys=((Fo i).take j).map λb=>V.int (if b then 1 else 0)) ⟨u7.refl _,A6 _,rfl⟩ (λj ys y h=>?_) (λj ys y _ h=>.of (h.1 _ _ r)) rfl (λj ys y v hv h=>?_) (λys y h=>?_)⟩
  .obtain⟨_,hj,rfl⟩:=h;rw[d8,B0,xw];lia
  .obtain⟨O,hj,rfl⟩:=h;rw[w6] at hv;obtain⟨b,U,ev⟩:=Zt.mp hv;subst ev;refine⟨_,rfl,.inr ⟨b,rfl,O,?_,?_⟩⟩
   .have:=(ZW.mp U).1;rw[xw] at this;exact this
   .rw[D8,U,v9];rfl
  .obtain⟨O,hj,rfl⟩:=h;intro pz S;refine⟨pz,((Fo i).take ((Fo i).map V.bl).length).map (λb=>if b then 1 else 0),rfl,.inl (.of (by rw[j3,R8];rfl)),rfl,_,rfl,?_⟩;rw[d8,M6,QO i d];refine Z8 ⟨_,rfl,.inl ⟨rfl,_,.of (by rw[t9 (A5 (O _ _ r) S)];exact O _ _ r)⟩,t,Fo i,i,rfl,rfl,(by rw[t9 (A5 (O _ _ r) S)];exact O _ _ r),(NW i d).1,(NW i d).2,q _ ((g7.trans O).trans (u7.new S))⟩
end
variable {ns:List Int}
def xy {k:Nat} (h:k<ns.length):xB (ns.map V.int) (k:Int)=some (.int (ns.getD k 0)):=by refine M7 ?_;rw[w6,j4 h,E5,j4 h];rfl
def ni (x:Int) (b:Bool):Prop:=b=false->0<=x/\x<2147483647
section
variable {P:j0}{w:w5}{K:m9}{mg:Str->Option b9}{base:Heap}{f:Addr}{fd:C5}
def mJ (K:m9):Sp:=λb H Q _=>∃(a:Addr) (ns:List Int) (k:Nat),b=[.ref a,.int k]/\jc K H a (ns.map V.int)/\∀x,Q (.int x) H
abbrev pE:Stmt:=top 69
def AW:C6 ["_law_script","_law_k"] ["_law_script","_law_k"] (A0 pE):=aS
def Br (F:aU K "_law_cell_at" "_law_cell_at" pE f fd) (B:Bt mg):K6 P w K mg base ee 1 f fd ["_law_script","_law_k"] (mJ K):=by
 refine F.ok AW (λe H Q E h=>?_) (λg A b s H e Q E j h=>?_)
 .obtain⟨a,ns,k,rfl,_⟩:=h;rfl
 obtain⟨a,ns,k,rfl,d,q⟩:=h;refine⟨_,m8 (R3 (J1 SO (pv 1) (D4 R1 rfl B.len J8 (b8 (pv 0) i3)) (N2 _)) (u6 (C8 (R5 U8 (pv 0) (pv 1) (λ_ _=>rfl)))) G0)
  (u6 (C8 A7)),?_⟩
 refine⟨_,rfl,_,rfl,a,_,rfl,.inl d,_,_,rfl,rfl,_,rfl,?_⟩;refine MB (λc=>?_) (λc=>q 0);have i:(k:Int)<(((ns.map V.int).length:Nat):Int):=Zx c;rw[d8] at i;exact⟨_,rfl,_,rfl,a,_,_,_,rfl,rfl,d,xy (by lia),q _⟩
def rX (K:m9):Sp:=λc H Q _=>∃(a:Addr) (ns:List Int) (k:Nat),c=[.ref a,.int k]/\jc K H a (ns.map V.int)/\∀l x b,H l=none->ni x b->Q (.ref l) (C3 H l (.lst [.int x,.bl b]))
abbrev wH:Stmt:=top 70
def yA:C6 ["_law_script","_law_k","_law_cell"] ["_law_script","_law_k"] (A0 wH):=aS
def IG (F:aU K "_law_state" "_law_state" wH f fd) (c1:Y1 P w K mg base 1 "_law_cell_at" ["_law_script","_law_k"] (mJ K)):K6 P w K mg base ee 2 f fd ["_law_script","_law_k"] (rX K):=by
 refine F.ok yA (λg H Q E h=>?_) (λi A b s H g Q E j h=>?_)
 .obtain⟨a,ns,k,rfl,_⟩:=h;rfl
 obtain⟨a,ns,k,rfl,m,q⟩:=h;refine⟨_,m8 (F7 (i:=2) yA.nd rfl (B6 rfl) (D9 c1 j rfl (b8 (pv 0) (b8 (pv 1) i3))))
  (m8 (R3 (J1 SQ (pv 2) (y8 Iz A7 A7) (N2 _)) (u6 (C8 (S0 (b8 (y8 Iy (pv 2) (y8 Iz A7 A7)) (b8 fQ i3))))) G0)
  (u6 (C8 (S0 (b8 (y8 mR (pv 2) A7) (b8 fQ i3)))))),?_⟩
 have e:Ud 10 18:=⟨by decide,by decide,by decide⟩
 refine⟨_,rfl,_,rfl,a,ns,k,rfl,m,λx=>?_⟩;refine⟨_,rfl,_,_,rfl,rfl,e,_,_,rfl,rfl,_,rfl,?_⟩;refine MB (λc=>?_) (λc=>?_)
 .exact⟨_,rfl,_,_,rfl,rfl,e,_,_,rfl,rfl,(by show 2<=j6;decide),λl d=>q l _ _ d (λz=>by cases z)⟩
 .exact⟨_,rfl,_,_,rfl,rfl,(by show (0:Int)<2147483647;decide),(by show 2<=j6;decide),λl d=>q l _ _ d (λ_=>⟨ik _ (by decide),dZ _ (by decide)⟩)⟩
def gr:Sp:=λc H Q _=>∃(l:Addr) (m x:Int) (b:Bool),c=[.ref l,.int m]/\H l=some (.lst [.int x,.bl b])/\ni x b/\1<=m/\m<=1000 /\
 ∀(y:Nat) (a:Int),(y:Int)<m->ni a b->Q (.int y) (C3 H l (.lst [.int a,.bl b]))
abbrev AY:Stmt:=top 71
def rm:C6 ["_law_state_here","_law_many","_law_found","_law_mixed"] ["_law_state_here","_law_many"] (A0 AY):=aS
def LZ (F:aU K "_law_take" "_law_take" AY f fd):K6 P w K mg base ee 1 f fd ["_law_state_here","_law_many"] gr:=by
 refine F.ok rm (λn H Q E h=>?_) (λo A g s H n Q E r h=>?_)
 .obtain⟨l,m,x,b,rfl,_⟩:=h;rfl
 obtain⟨l,m,x,b,rfl,c,i,m1,m2,q⟩:=h;refine⟨_,m8 (R3 (eO (R5 U8 (pv 0) A7 (λ_ _=>rfl)))
   (m8 (F7 (i:=2) rm.nd rfl (B6 rfl) (y8 mR (R5 U8 (pv 0) A7 (λ_ _=>rfl)) (pv 1)))
   (m8 (pH (y8 CU (R5 U8 (pv 0) A7 (λ_ _=>rfl)) (pv 1)) (Bk (pv 0) A7 si))
   (u6 (C8 (pv 2))))) G0)
  (m8 (pH (y8 mR (y8 dI (y8 pK (R5 U8 (pv 0) A7 (λ_ _=>rfl)) A7) A7) A7) (Bk (pv 0) A7 si))
  (m8 (F7 (i:=3) rm.nd rfl (B6 rfl) (y8 mR (y8 dI (y8 dI (y8 pK (R5 U8 (pv 0) A7 (λ_ _=>rfl)) (R5 U8 (pv 0) A7 (λ_ _=>rfl))) (y8 pK A7 (R5 U8 (pv 0) A7 (λ_ _=>rfl)))) A7) A7))
  (m8 (F7 (i:=3) rm.nd rfl (B6 rfl) (y8 mR (y8 dI (y8 pK (pv 3) (pv 3)) (y8 pK A7 (pv 3))) A7))
  (u6 (C8 (y8 mR (y8 CU (pv 3) A7) (pv 1))))))),?_⟩
 have fin:∀(z d:Int),ni d b->Q (.int (z % m)) (C3 H l (.lst [.int d,.bl b])):=λz d h=>by
  have t:=ik z (show m≠0 by lia);have u:=dZ z (show 0<m by lia);have e:z % m=(((z % m).toNat:Nat):Int):=by lia
  rw[e];exact q _ d (by lia) h
 refine⟨_,rfl,l,_,_,_,rfl,rfl,.of c,M7 (j:=1) rfl,_,rfl,?_⟩;cases b with
 | true =>
  refine aA ⟨_,rfl,l,_,_,_,rfl,rfl,.of c,M7 (j:=0) rfl,_,rfl,_,_,rfl,rfl,(by lia),?_⟩;refine⟨_,rfl,l,_,_,_,rfl,rfl,.of c,M7 (j:=0) rfl,_,rfl,_,_,rfl,rfl,⟨by lia,by lia⟩,_,rfl,l,_,_,0,rfl,rfl,c,rfl,?_⟩;exact⟨_,rfl,fin _ _ (λz=>by cases z)⟩
 | false =>
  obtain⟨v,B⟩:=i rfl;refine Z8 ⟨_,rfl,l,_,_,_,rfl,rfl,.of c,M7 (j:=0) rfl,_,_,rfl,rfl,.inl ⟨by lia,by lia⟩,_,_,rfl,rfl,_,_,rfl,rfl,(by show (0:Int)<2147483647;decide),_,rfl,l,_,_,0,rfl,rfl,c,rfl,?_⟩;have j:=ik (x*48271+29) (show (2147483647:Int)≠0 by decide);have k:=dZ (x*48271+29) (show (0:Int)<2147483647 by decide);show pf _ _ _ _ (C3 H l (.lst [.int ((x*48271+29) % 2147483647),.bl false]));generalize (x*48271+29) % 2147483647=y at j k;have a:C3 H l (.lst [.int y,.bl false]) l=some (.lst [.int y,.bl false]):=j3;refine⟨_,rfl,l,_,_,_,rfl,rfl,.of a,M7 (j:=0) rfl,_,rfl,l,_,_,_,rfl,rfl,.of a,M7 (j:=0) rfl,_,_,rfl,rfl,.inl ⟨by lia,by lia⟩,_,rfl,l,_,_,_,rfl,rfl,.of a,M7 (j:=0) rfl,_,_,rfl,rfl,.inr ⟨by lia,by lia⟩,_,_,rfl,rfl,_,_,rfl,rfl,_,_,rfl,rfl,(by show (0:Int)<2147483629;decide),?_⟩;have p:=ik (y*y+39373*y+7) (show (2147483629:Int)≠0 by decide);have z1:=dZ (y*y+39373*y+7) (show (0:Int)<2147483629 by decide);generalize (y*y+39373*y+7) % 2147483629=z at p z1;refine⟨_,rfl,_,rfl,_,_,rfl,rfl,.inl ⟨by lia,by lia⟩,_,rfl,_,_,rfl,rfl,.inr ⟨by lia,by lia⟩,_,_,rfl,rfl,_,_,rfl,rfl,(by show (0:Int)<2147483587;decide),?_⟩;exact⟨_,rfl,_,_,rfl,rfl,⟨by decide,by decide⟩,_,rfl,_,_,rfl,rfl,(by lia),fin _ _ (λ_=>⟨j,k⟩)⟩
end
variable {n:Nat}
def Mz {k:Nat} (h:k<n):MA n (k:Int)=some k:=by unfold MA;rw[ZB (by lia),ZB (by lia)];simp
theorem yy:∀{l:List Int}{y:Nat}{v:Int},(∀x∈l,0<=x)->0<v->y<l.length->0<(l.set y v).sum
 | [],y,_,_,_,h=>by simp at h
 | a::l,0,v,h,c,_=>by
  rw[List.set_cons_zero,X0];have:=Mt.gL (l:=l) λx b=>h x (g0 _ b);lia
 | a::l,y+1,v,h,c,d=>by rw[List.set_cons_succ,X0];have e:=yy (l:=l) (y:=y) (λx b=>h x (g0 _ b)) c (by simpa using d);have f:=h a f7;lia
abbrev DR (rs:List (List Int)):E7:=.tuple (rs.map DI)
def jr (h:ns.length<=1000):js (DI ns):=λa e=>by
 injection e with e
 rw[<- e,d8];exact h
variable {rs:List (List Int)}
def yx (h:rs.length<=1000):js (DR rs):=λa e=>by
 injection e with e
 rw[<- e,d8];exact h
def ve (h:jx n 5 rs) (f:n<=1000):∀b,DR rs=.tuple b->∀r∈b,js r:=λb e r d=>by
 injection e with e
 rw[<- e] at d;obtain⟨c,a,e2⟩:=ZY.mp d;rw[<- e2];exact jr (by rw[(h.row c a).len];exact f)
def QK {st:Addr}{v:V}{k:Nat} (h:Dt st H (DR rs) v) (g:k<rs.length):
  ∃r a b,v=.ref r/\H r=some (.tup a)/\a[k]?=some (.ref b)/\H b=some (.tup ((rs.getD k []).map V.int)):=by
 obtain⟨r,a,e,_,j,c⟩:=h.untup;have l:=c.len;rw[d8] at l;have f:k<a.length:=by lia
 obtain⟨d,i,m⟩:=c.get (i:=k) (x:=a[k]) (j4 f);rw[w6,j4 g] at i;have e2:rs.getD k []=rs[k]:=by rw[E5,j4 g];rfl
 have e3:d=DI rs[k]:=(E8 i).symm;subst e3;obtain⟨b,eb,_,o⟩:=m.di;exact⟨r,a,b,e,j,by rw[j4 f,eb],by rw[e2];exact o⟩
def nW (h:jW n 20 ns) (b:1<=n) (c:n<=4):aO 20 (DI ns)=true:=by
 unfold aO;rw[gu,we,h.len,ZA (show (1:Int)<=(n:Int) by lia),ZA (show (n:Int)<=4 by lia),ZA h.pos];have:X1 0 20 (DI ns)=true:=by show (ns.map ir).all (cD 0 20)=true;rw[Z3];refine kF.mpr λx a=>?_;have:=h.nn x a;show (decide ((0:Int)<=x)&&decide (x<=20))=true;rw[ZA this.1,ZA (show x<=20 by lia)];rfl
 rw[this];rfl
def sx (h:jx n 5 rs):aD n (DR rs)=true:=by show (decide (((rs.map DI).length:Int)=n)&&(rs.map DI).all (λr=>X1 0 5 r&&decide ((il r:Int)=n)))=true;rw[d8,h.len,ZA rfl,T8,Z3];refine kF.mpr λr b=>?_;have a:=h.row r b;show (X1 0 5 (DI r)&&decide ((il (DI r):Int)=n))=true;rw[gu,a.len,ZA rfl,Bool.and_true];show (r.map ir).all (cD 0 5)=true;rw[Z3];refine kF.mpr λx c=>?_;have:=a.nn x c;show (decide ((0:Int)<=x)&&decide (x<=5))=true;rw[ZA this.1,ZA (show x<=5 by lia)];rfl
def LH:V->Option Int->Option Int->Hp->VK->Prop:=λx lo d H Q=>∃(a:Addr) (c:List V),x=.ref a/\H a=some (.tup c)/\∀p b,u7 H b->b p=some (.tup (qW c lo d))->Q (.ref p) b
section
variable {P:j0}{w:w5}{K:m9}{mg:Str->Option b9}{base:Heap}{f:Addr}{fd:C5}
def cW (l:Addr) (b:Bool) (H H':Hp):Prop:=Kp l H H'/\∃x,H' l=some (.lst [.int x,.bl b])/\ni x b
variable {l:Addr}{b:Bool}{H:Hp}
def cW.start {x:Int} (h:H l=some (.lst [.int x,.bl b])) (ok:ni x b):cW l b H H:=⟨Kp.refl l H,x,h,ok⟩
variable {H1:Hp}
def cW.same {a:Hp} (s:cW l b H H1) (g:u7 H1 a):cW l b H a:=by obtain⟨k,x,h,ok⟩:=s;exact⟨k.trans (g.kp l),x,g _ _ h,ok⟩
theorem cW.new {l:Addr}{b:Bool}{H H1:Hp}{p:Addr}{o:HO} (s:cW l b H H1) (h:H1 p=none):cW l b H (C3 H1 p o):=s.same (u7.new h)
theorem cW.trans {l:Addr}{b:Bool}{H H1 a:Hp} (s:cW l b H H1) (t:cW l b H1 a):cW l b H a:=⟨s.1.trans t.1,t.2⟩
def cW.ne {p:Addr} (s:cW l b H H1) (h:H1 p=none):l≠p:=by obtain⟨_,x,e,_⟩:=s;exact A5 e h
def cW.go {x:Int} (s:cW l b H H1) (ok:ni x b):cW l b H (C3 H1 l (.lst [.int x,.bl b])):=⟨s.1.trans Kp.at,x,j3,ok⟩
def cW.neL {p:Addr}{xs:List V} (s:cW l b H H1) (h:H1 p=some (.tup xs)):p≠l:=λe=>by obtain⟨_,x,q,_⟩:=s;rw[e,q] at h;cases h
def wm:Sp:=λc H Q _=>∃(l:Addr) (n:Nat) (x:Int) (b:Bool),c=[.ref l,.int n]/\H l=some (.lst [.int x,.bl b])/\ni x b/\1<=n/\n<=4 /\
 ∀(p:Addr) (a:Hp) (ns:List Int),cW l b H a->a p=some (.tup (ns.map V.int))->Mt.jW n 20 ns->Q (.ref p) a
abbrev Ba:Stmt:=top 73
def wC:C6 ["_law_state_here","_law_kinds","_law_most","_law_found"] ["_law_state_here","_law_kinds"] (A0 Ba):=aS
def Mb (F:aU K "_law_urn" "_law_urn" Ba f fd) (B:Bt mg) (c1:Y1 P w K mg base 1 "_law_take" ["_law_state_here","_law_many"] gr):K6 P w K mg base ee 2 f fd ["_law_state_here","_law_kinds"] wm:=by
 refine F.ok wC (λvs H Q E h=>?_) (λa7 A R s H vs Q E M h=>?_)
 .obtain⟨l,n,x,b,rfl,_⟩:=h;rfl
 obtain⟨l,n,x,b,rfl,hl,S,n1,n4,q⟩:=h;refine⟨_,m8 (F7 (i:=2) wC.nd rfl (iu rfl) (R5 U8 (S0 (b8 A7 (b8 A7 (b8 A7 i3)))) (D9 c1 M rfl (b8 (pv 0) (b8 A7 i3))) (λ_ _=>rfl)))
  (m8 (kR (N:=["_law_kind","_law_state_here","_law_most"]) (ix:=[none,some 0,some 2]) (ifs:=[]) (tc:=ag) (i:=3) rfl wC.nd rfl rfl (Y6 rfl B.range (b8 (pv 1) i3))
   (λs H ex=>dq (i:=0) (by decide) rfl (B6 rfl) (.inr rfl)) (λs H ex=>P5) (λs H ex=>D9 c1 M rfl (b8 (pv 1) (b8 (pv 2) i3))) rfl (by decide) (by rfl) (by rfl) (λ_=>rfl) (by rfl))
  (m8 (R3 (J1 eg (D4 (dP rfl) rfl B.sum DQ (b8 (pv 3) i3)) A7 (N2 _)) (u6 (pH (y8 dI A7 (D9 c1 M rfl (b8 (pv 0) (b8 A7 i3)))) (Bk (pv 3) (D9 c1 M rfl (b8 (pv 0) (b8 (pv 1) i3))) si))) G0)
  (u6 (C8 (G9 Q3 rfl B.tuple Z6 (b8 (pv 3) i3)))))),?_⟩
 have s0:cW l b H H:=cW.start hl S;refine⟨(by show 3<=j6;decide),λC L=>⟨_,rfl,?_⟩⟩;have s1:cW l b H (C3 H C (.lst [.int 3,.int 8,.int 21])):=s0.new L;obtain⟨_,x1,T,U⟩:=id s1;refine⟨l,3,x1,b,rfl,T,U,by decide,by decide,λy x2 hy FR=>?_⟩;have s2:=s1.go FR;have k2:Kp l (C3 H C (.lst [.int 3,.int 8,.int 21])) (C3 (C3 H C (.lst [.int 3,.int 8,.int 21])) l (.lst [.int x2,.bl b])):=Kp.at;generalize C3 (C3 H C (.lst [.int 3,.int 8,.int 21])) l (.lst [.int x2,.bl b])=H1 at s2 k2;have X:H1 C=some (.lst [.int 3,.int 8,.int 21]):=k2 _ _ (s0.ne L).symm j3;obtain⟨m,hm,m1,m2⟩:∃m:Int,([.int 3,.int 8,.int 21]:List V)[y]?=some (.int m)/\1<=m/\m<=21:=by
  have d:y<3:=by lia
  match y,d with
  | 0,_=>exact⟨3,rfl,by decide,by decide⟩
  | 1,_=>exact⟨8,rfl,by decide,by decide⟩
  | 2,_=>exact⟨21,rfl,by decide,by decide⟩
 refine⟨C,_,_,_,rfl,rfl,.of X,M7 hm,?_⟩;refine⟨_,rfl,(n:Int),rfl,by lia,by lia,?_⟩;refine cZ (lo:=0) (n:=n) (sz (by lia)) (λi N j=>cW l b H j/\∃ns:List Int,N=ns.map V.int/\ns.length=i/\∀z∈ns,0<=z/\z<=20)
  ⟨s2,[],rfl,rfl,by simp⟩ (λi N j h=>?_) rfl (λi N j hi h=>?_) (λN j h=>?_)
 .obtain⟨_,ns,rfl,D,_⟩:=h;rw[d8];exact D
 .obtain⟨I,ns,rfl,D,J⟩:=h;obtain⟨_,x3,Y,Z⟩:=id I;refine⟨_,rfl,_,rfl,l,m,x3,b,rfl,Y,Z,m1,by lia,λy x4 hy r=>?_⟩;refine⟨I.go r,ns++[(y:Int)],by rw[v9];rfl,by rw[y9,D];rfl,λz a=>?_⟩;obtain h|h:=ZX.mp a
  .exact J z h
  .rw[ZZ.mp h];lia
 .obtain⟨I,ns,rfl,D,J⟩:=h;intro p O;have s4:cW l b H (C3 j p (.lst (ns.map V.int))):=I.new O;have g:p≠l:=(I.ne O).symm;refine⟨_,rfl,p,ns,rfl,.inl (.of j3),rfl,_,rfl,?_⟩;by_cases a:ns.sum=0
  .rw[a,ZA rfl];obtain⟨_,x4,a0,r⟩:=id s4;refine aA ⟨_,rfl,l,20,x4,b,rfl,a0,r,by decide,by decide,λv x5 hv a1=>?_⟩;have s5:=s4.go a1;have k5:Kp l (C3 j p (.lst (ns.map V.int))) (C3 (C3 j p (.lst (ns.map V.int))) l (.lst [.int x5,.bl b])):=Kp.at;generalize C3 (C3 j p (.lst (ns.map V.int))) l (.lst [.int x5,.bl b])=H4 at s5 k5;obtain⟨_,x6,a2,a3⟩:=id s5;refine⟨_,_,rfl,rfl,_,rfl,_,rfl,_,rfl,l,n,x6,b,rfl,a2,a3,by lia,by lia,λy x7 hy a4=>?_⟩;have s6:=s5.go a4;have k6:Kp l H4 (C3 H4 l (.lst [.int x7,.bl b])):=Kp.at;generalize C3 H4 l (.lst [.int x7,.bl b])=H5 at s6 k6;have a5:H5 p=some (.lst (ns.map V.int)):=k6 _ _ g (k5 _ _ g j3);have a6:H p=none:=by
    cases e:H p with
    | none=>rfl
    | some o=>rw[I.1 p o g e] at O;cases O
   have d:y<ns.length:=by lia
   refine⟨p,_,_,y,rfl,rfl,a5,Mz (by rw[d8];exact d),?_⟩;refine⟨_,rfl,p,_,rfl,.inl ⟨.of j3,λt ht=>?_⟩⟩;have s7:cW l b H (C3 H5 p (.lst ((ns.map V.int).set y (.int (1+v))))):=by obtain⟨k,x',e,ok⟩:=s6;exact⟨λc o hc u=>by rw[t9 (λz=>by rw[z,a6] at u;cases u)];exact k c o hc u,x',by rw[t9 g.symm];exact e,ok⟩
   refine q t _ (ns.set y (1+v)) (s7.new ht) (by rw[j3,List.map_set]) ⟨by rw[lY];exact D,λz a=>?_,yy (λz a=>(J z a).1) (by lia) d⟩;obtain h|h:=List.mem_or_eq_of_mem_set a
   .exact J z h
   .rw[h];lia
  .rw[Zz (show ¬ V.int ns.sum=V.int 0 from λz=>a (by injection z))];refine Z8 ⟨_,rfl,p,_,rfl,.inl ⟨.of j3,λt ht=>?_⟩⟩;refine q t _ ns (s4.new ht) j3 ⟨D,J,?_⟩;have:=Mt.gL (l:=ns) λz a=>(J z a).1;lia
end
def zq {xs:List V}{y:Nat} (h:y<=xs.length):qW xs (some (y:Int)) none=xs.drop y:=by
 unfold qW;have e1:HT.wM xs.length 0 (some (y:Int))=y:=by rw[HT.CJ];lia
 rw[e1,HT.yF];exact C0 (by rw[J5];lia)
def JT {xs:List V}{y:Nat} (h:y<=xs.length):qW xs none (some (y:Int))=xs.take y:=by
 unfold qW;have e1:HT.wM xs.length xs.length (some (y:Int))=y:=by rw[HT.CJ];lia
 rw[e1,HT.yF,X4,rK]
theorem DF {st d:Addr}{H H':Hp} (k:∀c o,c≠d->H c=some o->H' c=some o) (f:∀xs,H d=some (.tup xs)->False):∀{rs:List (List Int)}{xs:List V},Z5 st H (rs.map DI) xs->Z5 st H' (rs.map DI) xs
 | [],_,h=>by unfold Z5 at h;subst h;exact Z5.nil _ _
 | r::rs,_,h=>by rw[t8] at h ⊢;obtain⟨x,l,e,g,i⟩:=h.uncons;subst e;obtain⟨a,j,ne,b⟩:=g.di;subst j;exact Z5.cons (Dt.mkI ne (k a _ (λz=>by rw[z] at b;exact f _ b) b)) (DF k f i)
section
variable {P:j0}{w:w5}{K:m9}{mg:Str->Option b9}{base:Heap}{f:Addr}{fd:C5}
def sf:Sp:=λc H Q _=>∃(l:Addr) (n:Nat) (x:Int) (b:Bool),c=[.ref l,.int n]/\H l=some (.lst [.int x,.bl b])/\ni x b/\1<=n/\n<=4 /\
 ∀(v:V) (a:Hp) (rs:List (List Int)),cW l b H a->Dt l a (DR rs) v->Mt.jx n 5 rs->Q v a
abbrev wL:Stmt:=top 74
def gN:C6 ["_law_state_here","_law_kinds","_law_way","_law_more","_law_line","_law_rows","_law_kind","_law_at"] ["_law_state_here","_law_kinds"] (A0 wL):=aS
def IK (F:aU K "_law_rule" "_law_rule" wL f fd) (B:Bt mg) (c1:Y1 P w K mg base 1 "_law_take" ["_law_state_here","_law_many"] gr):K6 P w K mg base ee 2 f fd ["_law_state_here","_law_kinds"] sf:=by
 refine F.ok gN (λvs H Q E h=>?_) (λc9 A be s H vs Q E L h=>?_)
 .obtain⟨l,n,x,b,rfl,_⟩:=h;rfl
 obtain⟨l,n,x,b,rfl,hl,an,n1,n4,q⟩:=h;refine⟨_,m8 (F7 (i:=2) gN.nd rfl (iu rfl) (D9 c1 L rfl (b8 (pv 0) (b8 A7 i3))))
  (m8 (F7 (i:=3) gN.nd rfl (iu rfl) (D9 c1 L rfl (b8 (pv 0) (b8 A7 i3))))
  (m8 (R3 (J1 eg (pv 2) A7 (N2 _)) (u6 (C8 (G9 Q3 rfl B.tuple Z6 (b8 (Q2 (N:=["_law_one","_law_kinds","_law_more"]) (ix:=[none,some 1,some 3]) (ifs:=[]) (tc:=ag) rfl (Y6 rfl B.range (b8 (pv 1) i3))
    (λs H R=>dq (i:=0) (by decide) rfl (iu rfl) (.inl rfl)) (λs H R=>P5)
    (λs H R=>G9 (Sf (K:=K) rfl) rfl B.tuple Z6 (b8 (Q2 (N:=["_law_other","_law_more","_law_one"]) (ix:=[none,some 2,some 0]) (ifs:=[]) (tc:=ag) rfl (Y6 rfl B.range (b8 (pv 1) i3))
     (λs H R=>dq (i:=0) (by decide) rfl (B6 rfl) (.inr rfl)) (λs H R=>P5)
     (λs H R=>y8 pK (pv 1) (G9 vJ rfl B.int boot_int (b8 (wY eg (pv 2) (pv 0) (N2 _)) i3))) rfl (by decide) (by rfl) (by rfl) (λ_=>rfl)) i3)) rfl (by decide) (by rfl) (by rfl) (λ_=>rfl)) i3)))) G0)
  (m8 (R3 (J1 eg (pv 2) A7 (N2 _))
   (m8 (kR (N:=["_law_kind","_law_state_here"]) (ix:=[none,some 0]) (ifs:=[]) (tc:=ag) (i:=4) rfl gN.nd rfl rfl (Y6 rfl B.range (b8 (pv 1) i3))
    (λs H R=>dq (i:=0) (by decide) rfl (B6 rfl) (.inr rfl)) (λs H R=>P5) (λs H R=>D9 c1 L rfl (b8 (pv 1) (b8 A7 i3))) rfl (by decide) (by rfl) (by rfl) (λ_=>rfl) (by rfl))
   (m8 (F7 (i:=5) gN.nd rfl (B6 rfl) (S0 i3))
   (m8 (eQ M4 rfl (Y6 rfl B.range (b8 (pv 1) i3)) (U6 (i:=6) gN.nd rfl (B6 rfl))
    (m8 (F7 (i:=7) gN.nd rfl (B6 rfl) (D9 c1 L rfl (b8 (pv 0) (b8 (pv 1) i3))))
    (u6 (aw (cz O1 Q7 Q6 eT (pv 5) (b8 (G9 Q3 rfl B.tuple Z6 (b8 (y8 bV (Y9 wz (pv 4) (aX (pv 7)) aY) (Y9 wz (pv 4) aY (aX (pv 7)))) i3)) i3))))))
   (u6 (C8 (G9 Q3 rfl B.tuple Z6 (b8 (pv 5) i3))))))) G0)
  (u6 (C8 (G9 Q3 rfl B.tuple Z6 (b8 (Q2 (N:=["_law_one","_law_kinds","_law_state_here","_law_way"]) (ix:=[none,some 1,some 0,some 2]) (ifs:=[]) (tc:=ag) rfl (Y6 rfl B.range (b8 (pv 1) i3))
    (λs H R=>dq (i:=0) (by decide) rfl (B6 rfl) (.inr rfl)) (λs H R=>P5)
    (λs H R=>G9 (Sf (K:=K) rfl) rfl B.tuple Z6 (b8 (Q2 (N:=["_law_other","_law_state_here","_law_way"]) (ix:=[none,some 2,some 3]) (ifs:=[]) (tc:=ag) rfl (Y6 rfl B.range (b8 (pv 1) i3))
     (λs H R=>dq (i:=0) (by decide) rfl (B6 rfl) (.inr rfl)) (λs H R=>P5)
     (λs H R=>D9 c1 L rfl (b8 (pv 1) (b8 (R5 (ixLK (K:=K) rfl) (S0 (b8 A7 (b8 A7 i3))) (y8 Iy (pv 2) A7) (λ_ _=>rfl)) i3))) rfl (by decide) (by rfl) (by rfl) (λ_=>rfl)) i3)) rfl (by decide) (by rfl) (by rfl) (λ_=>rfl)) i3))))))),?_⟩
 have D:-(2 ^ 62)<=((n:Nat):Int):=by lia
 have I:((n:Nat):Int)<2 ^ 62:=by lia
 have s0:cW l b H H:=cW.start hl an;have fin:∀(rs:List (List Int)) (g:List V) (a:Hp) (p ra:Addr),cW l b H a->rs.length=n->(∀r∈rs,Mt.NY n 5 r)->Z5 l a (rs.map DI) g->a p=none->C3 a p (.lst g) ra=none->Q (.ref ra) (C3 (C3 a p (.lst g)) ra (.tup g)):=λrs g a p ra N h1 h2 h3 X u=>by have O:cW l b H (C3 a p (.lst g)):=N.new X;exact q _ _ rs (O.new u) (Dt.tup (O.ne u).symm j3 (h3.kp ((Kp.new X).trans (Kp.new u)))) ⟨h1,h2⟩
 refine⟨_,rfl,l,4,x,b,rfl,hl,an,by decide,by decide,λwy x1 ca bi=>?_⟩;have s1:=s0.go bi;show pf _ _ _ _ (C3 H l (.lst [.int x1,.bl b]));generalize C3 H l (.lst [.int x1,.bl b])=H1 at s1;obtain⟨_,x2,bm,FR⟩:=id s1;refine⟨_,rfl,l,6,x2,b,rfl,bm,FR,by decide,by decide,λmo x3 cb bn=>?_⟩;have s2:=s1.go bn;show pf _ _ _ _ (C3 H1 l (.lst [.int x3,.bl b]));generalize C3 H1 l (.lst [.int x3,.bl b])=H2 at s2;refine⟨_,rfl,rfl,_,rfl,MB (λc=>?_) (λc=>?_)⟩
 .refine⟨_,rfl,(n:Int),rfl,D,I,?_⟩;refine cZ (lo:=0) (n:=n) (sz (by lia)) (λi g a=>cW l b H a/\∃rs:List (List Int),rs.length=i/\(∀r∈rs,Mt.NY n 5 r)/\Z5 l a (rs.map DI) g)
   ⟨s2,[],rfl,by simp,Z5.nil _ _⟩ (λi g a h=>?_) rfl (λi g a hi h=>?_) (λg a h=>?_)
  .obtain⟨_,rs,d,_,M⟩:=h;rw[<- M.len,d8];exact d
  .obtain⟨N,rs,d,v,M⟩:=h;refine⟨_,rfl,(n:Int),rfl,D,I,?_⟩;refine cZ (lo:=0) (n:=n) (sz (by lia)) (λj zs C=>cW l b H C/\Kp l a C/\∃r:List Int,zs=r.map V.int/\r.length=j/\∀z∈r,0<=z/\z<=5)
    ⟨N,Kp.refl _ _,[],rfl,rfl,by simp⟩ (λj zs C h=>?_) rfl (λj zs C hj h=>?_) (λzs C h=>?_)
   .obtain⟨_,_,r,rfl,L,_⟩:=h;rw[d8];exact L
   .obtain⟨O,k4,r,rfl,L,Z⟩:=h;refine⟨_,rfl,_,rfl,_,rfl,rfl,.inr ⟨_,rfl,_,_,rfl,rfl,.inl ⟨by lia,by lia⟩,?_⟩⟩;refine⟨O,k4,r++[_],by rw[v9];rfl,by rw[y9,L];rfl,λz a0=>?_⟩;obtain h|h:=ZX.mp a0
    .exact Z z h
    .rw[ZZ.mp h];split <;> lia
   .obtain⟨O,k4,r,rfl,L,Z⟩:=h;intro p X;have s5:cW l b H (C3 C p (.lst (r.map V.int))):=O.new X;refine⟨p,_,rfl,.inl ⟨.of j3,λt ht=>?_⟩⟩;have kk:Kp l a (C3 (C3 C p (.lst (r.map V.int))) t (.tup (r.map V.int))):=(k4.trans (Kp.new X)).trans (Kp.new ht);refine⟨s5.new ht,rs++[r],by rw[y9,d];rfl,λr' a1=>?_,?_⟩
    .rcases ZX.mp a1 with h|h
     .exact v r' h
     .rw[ZZ.mp h];exact⟨L,Z⟩
    .rw[v9];exact(M.kp kk).append (Z5.cons (Dt.mkI (s5.ne ht).symm j3) (Z5.nil _ _))
  .obtain⟨N,rs,d,v,M⟩:=h;exact λp X=>⟨p,_,rfl,.inl ⟨.of j3,λra u=>fin rs g a p ra N d v M X u⟩⟩
 .refine⟨_,rfl,rfl,_,rfl,MB (λc2=>?_) (λc2=>?_)⟩
  .refine⟨_,rfl,(n:Int),rfl,D,I,?_⟩;refine cZ (lo:=0) (n:=n) (sz (by lia)) (λi g a=>cW l b H a/\∃ns:List Int,g=ns.map V.int/\ns.length=i/\∀z∈ns,0<=z/\z<=2)
    ⟨s2,[],rfl,rfl,by simp⟩ (λi g a h=>?_) rfl (λi g a hi h=>?_) (λg a h=>?_)
   .obtain⟨_,ns,rfl,hn,_⟩:=h;rw[d8];exact hn
   .obtain⟨N,ns,rfl,hn,hb⟩:=h;obtain⟨_,x4,bu,bv⟩:=id N;refine⟨_,rfl,l,3,x4,b,rfl,bu,bv,by decide,by decide,λy x5 hy a9=>?_⟩;refine⟨N.go a9,ns++[(y:Int)],by rw[v9];rfl,by rw[y9,hn];rfl,λz Z=>?_⟩;obtain h|h:=ZX.mp Z
    .exact hb z h
    .rw[ZZ.mp h];lia
   .obtain⟨N,ns,rfl,hn,hb⟩:=h;intro Y ap;have O:cW l b H (C3 a Y (.lst (ns.map V.int))):=N.new ap;have ar:Y≠l:=(N.ne ap).symm;have a3:C3 a Y (.lst (ns.map V.int)) Y=some (.lst (ns.map V.int)):=j3;show pf _ _ _ _ (C3 a Y (.lst (ns.map V.int)));generalize C3 a Y (.lst (ns.map V.int))=C at O a3;refine⟨by show 0<=j6;decide,λJ U=>?_⟩;have s5:cW l b H (C3 C J (.lst [])):=O.new U;have a4:J≠l:=(O.ne U).symm;have ax:C3 C J (.lst []) Y=some (.lst (ns.map V.int)):=by rw[t9 (A5 a3 U)];exact a3
    have ay:C3 C J (.lst []) J=some (.lst []):=j3;have bx:Y≠J:=A5 a3 U;have bz:H J=none:=by
     cases e:H J with
     | none=>rfl
     | some o=>rw[O.1 J o a4 e] at U;cases U
    show pf _ _ _ _ (C3 C J (.lst []));generalize C3 C J (.lst [])=H5 at s5 ax ay;refine⟨_,rfl,(n:Int),rfl,D,I,?_⟩;refine lT (lo:=0) (n:=n) (λi σ H6=>cW l b H H6/\(∃o6 o7,σ=[some (.ref l),some (.int n),some (.int wy),some (.int mo),some (.ref Y),some (.ref J),o6,o7])/\H6 Y=some (.lst (ns.map V.int))/\∃(rs:List (List Int)) (g:List V),H6 J=some (.lst g)/\rs.length=i/\(∀r∈rs,Mt.NY n 5 r)/\Z5 l H6 (rs.map DI) g)
     ⟨s5,⟨none,none,rfl⟩,ax,[],[],ay,rfl,by simp,Z5.nil _ _⟩ (λi σ H6 hi h=>?_) (λσ H6 h=>?_)
    .obtain⟨s6,⟨o6,o7,rfl⟩,b0,rs,g,ab,d,v,M⟩:=h;obtain⟨_,x6,c0,ac⟩:=id s6;refine⟨_,rfl,_,rfl,l,n,x6,b,rfl,c0,ac,by lia,by lia,λy x7 hy c3=>?_⟩;have s7:=s6.go c3;have k7:Kp l H6 (C3 H6 l (.lst [.int x7,.bl b])):=Kp.at;dsimp only[V5];generalize C3 H6 l (.lst [.int x7,.bl b])=H7 at s7 k7;have a5:=k7 _ _ ar b0;have b4:=k7 _ _ a4 ab;have c4:=M.kp k7;have b5:y<=(ns.map V.int).length:=by rw[d8];lia
     refine⟨_,rfl,.inl ⟨rfl,_,.of b4⟩,_,rfl,_,rfl,_,rfl,Y,_,rfl,.of a5,λp1 ad=>⟨_,rfl,_,rfl,_,rfl,Y,_,rfl,.of (by rw[t9 (A5 a5 ad)];exact a5),λp2 a2=>?_⟩⟩;have ea:qW (ns.map V.int) (some (y:Int)) none=(ns.drop y).map V.int:=by rw[zq b5,List.map_drop]
     have eb:qW (ns.map V.int) none (some (y:Int))=(ns.take y).map V.int:=by rw[JT b5,List.map_take]
     rw[ea,eb];rw[ea] at a2;have s8:cW l b H (C3 H7 p1 (.lst ((ns.drop y).map V.int))):=s7.new ad;have s9:cW l b H (C3 (C3 H7 p1 (.lst ((ns.drop y).map V.int))) p2 (.lst ((ns.take y).map V.int))):=s8.new a2;refine⟨p1,p2,_,_,rfl,rfl,(by rw[t9 (λe=>by rw[<- e,j3] at a2;cases a2),j3]),j3,(by rw[d8,d8,J5,B0];exact sz (by lia)),λp3 b6=>?_⟩;have al:=s9.new (o:=.lst ((ns.drop y).map V.int++(ns.take y).map V.int)) b6;have k10:Kp l H7 (C3 (C3 (C3 H7 p1 (.lst ((ns.drop y).map V.int))) p2 (.lst ((ns.take y).map V.int))) p3 (.lst ((ns.drop y).map V.int++(ns.take y).map V.int))):=((Kp.new ad).trans (Kp.new a2)).trans (Kp.new b6);have a6:C3 (C3 (C3 H7 p1 (.lst ((ns.drop y).map V.int))) p2 (.lst ((ns.take y).map V.int))) p3 (.lst ((ns.drop y).map V.int++(ns.take y).map V.int)) p3=some (.lst ((ns.drop y++ns.take y).map V.int)):=by rw[j3,v9]
     generalize C3 (C3 (C3 H7 p1 (.lst ((ns.drop y).map V.int))) p2 (.lst ((ns.take y).map V.int))) p3 (.lst ((ns.drop y).map V.int++(ns.take y).map V.int))=H8 at al k10 a6;refine⟨p3,_,rfl,.inl ⟨.of a6,λt ht=>?_⟩⟩;have k11:Kp l H7 (C3 H8 t (.tup ((ns.drop y++ns.take y).map V.int))):=k10.trans (Kp.new ht);have bb:=al.new (o:=.tup ((ns.drop y++ns.take y).map V.int)) ht;have S:C3 H8 t (.tup ((ns.drop y++ns.take y).map V.int)) t=some (.tup ((ns.drop y++ns.take y).map V.int)):=j3;have c5:t≠l:=(al.ne ht).symm;have T:=k11 _ _ a4 b4;have a7:=k11 _ _ ar a5;have a8:=c4.kp k11;generalize C3 H8 t (.tup ((ns.drop y++ns.take y).map V.int))=H9 at k11 bb S T a7 a8;have cc:g.length=i:=by rw[<- M.len,d8];exact d
     refine⟨J,_,_,rfl,rfl,T,jq (by lia),?_⟩;have c6:t≠J:=λe=>by rw[e,T] at S;cases S
     have k12:∀c o,c≠J->H9 c=some o->C3 H9 J (.lst (g++[.ref t])) c=some o:=λc o hc ho=>by rw[t9 hc];exact ho
     have c7:cW l b H (C3 H9 J (.lst (g++[.ref t]))):=by obtain⟨k,x',e,ok⟩:=bb;exact⟨λc o hc am=>by rw[t9 (λz=>by rw[z,bz] at am;cases am)];exact k c o hc am,x',by rw[t9 a4.symm];exact e,ok⟩
     refine⟨c7,⟨_,_,rfl⟩,k12 _ _ bx a7,rs++[ns.drop y++ns.take y],_,j3,by rw[y9,d];rfl,λr' a1=>?_,?_⟩
     .rcases ZX.mp a1 with h|h
      .exact v r' h
      .rw[ZZ.mp h];refine⟨by rw[y9,J5,B0];lia,λz Z=>?_⟩;have a0:z∈ns:=by
        obtain h|h:=ZX.mp Z
        .exact N0 h
        .exact D6 h
       have:=hb z a0;lia
     .rw[v9];refine Z5.append (DF k12 (λxs hc=>?_) a8) (Z5.cons (Dt.mkI c5 (k12 _ _ c6 S)) (Z5.nil _ _));rw[T] at hc;cases hc
    .obtain⟨s6,⟨o6,o7,rfl⟩,b0,rs,g,ab,d,v,M⟩:=h;refine⟨_,rfl,J,_,rfl,.inl ⟨.of ab,λra u=>?_⟩⟩;exact q _ _ rs (s6.new u) (Dt.tup (s6.ne u).symm j3 (M.kp (Kp.new u))) ⟨d,v⟩
  .have w2:wy=2 ∨ wy=3:=by have h0:¬ (V.int (wy:Int)=V.int 0):=λe=>c (ZA e);have h1:¬ (V.int (wy:Int)=V.int 1):=λe=>c2 (ZA e);have cd:wy≠0:=λe=>h0 (by rw[e];rfl);have ce:wy≠1:=λe=>h1 (by rw[e];rfl);lia
   refine⟨_,rfl,(n:Int),rfl,D,I,?_⟩;refine cZ (lo:=0) (n:=n) (sz (by lia)) (λi g a=>cW l b H a/\∃rs:List (List Int),rs.length=i/\(∀r∈rs,Mt.NY n 5 r)/\Z5 l a (rs.map DI) g)
    ⟨s2,[],rfl,by simp,Z5.nil _ _⟩ (λi g a h=>?_) rfl (λi g a hi h=>?_) (λg a h=>?_)
   .obtain⟨_,rs,d,_,M⟩:=h;rw[<- M.len,d8];exact d
   .obtain⟨N,rs,d,v,M⟩:=h;refine⟨_,rfl,(n:Int),rfl,D,I,?_⟩;refine cZ (lo:=0) (n:=n) (sz (by lia)) (λj zs C=>cW l b H C/\Kp l a C/\∃r:List Int,zs=r.map V.int/\r.length=j/\∀z∈r,0<=z/\z<=5)
     ⟨N,Kp.refl _ _,[],rfl,rfl,by simp⟩ (λj zs C h=>?_) rfl (λj zs C hj h=>?_) (λzs C h=>?_)
    .obtain⟨_,_,r,rfl,L,_⟩:=h;rw[d8];exact L
    .obtain⟨O,k4,r,rfl,L,Z⟩:=h;refine⟨_,rfl,(by show 2<=j6;decide),λp5 bc=>?_⟩;have s5:cW l b H (C3 C p5 (.lst [.int 2,.int 6])):=O.new bc;have k5:Kp l a (C3 C p5 (.lst [.int 2,.int 6])):=k4.trans (Kp.new bc);obtain⟨_,x5,c8,a9⟩:=id s5;obtain⟨m,hm,m1,m2⟩:∃m:Int,xB ([.int 2,.int 6]:List V) ((wy:Int) - 2)=some (.int m)/\1<=m/\m<=6:=by
      obtain e|e:=w2
      .subst e;exact⟨2,rfl,by decide,by decide⟩
      .subst e;exact⟨6,rfl,by decide,by decide⟩
     refine⟨_,rfl,_,_,rfl,rfl,p5,_,_,_,rfl,rfl,.of j3,hm,l,m,x5,b,rfl,c8,a9,m1,by lia,λy x6 hy ac=>?_⟩;refine⟨s5.go ac,k5.trans Kp.at,r++[(y:Int)],by rw[v9];rfl,by rw[y9,L];rfl,λz a0=>?_⟩;obtain h|h:=ZX.mp a0
     .exact Z z h
     .rw[ZZ.mp h];lia
    .obtain⟨O,k4,r,rfl,L,Z⟩:=h;intro p X;have s5:cW l b H (C3 C p (.lst (r.map V.int))):=O.new X;refine⟨p,_,rfl,.inl ⟨.of j3,λt ht=>?_⟩⟩;have kk:Kp l a (C3 (C3 C p (.lst (r.map V.int))) t (.tup (r.map V.int))):=(k4.trans (Kp.new X)).trans (Kp.new ht);refine⟨s5.new ht,rs++[r],by rw[y9,d];rfl,λr' a1=>?_,?_⟩
     .rcases ZX.mp a1 with h|h
      .exact v r' h
      .rw[ZZ.mp h];exact⟨L,Z⟩
     .rw[v9];exact(M.kp kk).append (Z5.cons (Dt.mkI (s5.ne ht).symm j3) (Z5.nil _ _))
   .obtain⟨N,rs,d,v,M⟩:=h;exact λp X=>⟨p,_,rfl,.inl ⟨.of j3,λra u=>fin rs g a p ra N d v M X u⟩⟩
end
def FR (d:E7):Prop:=js d/\∀a,d=.tuple a->∀r∈a,js r
section
variable {Pr:Hp->V->Prop}{m m1 m2:Nat}{ta tb te:TE}{σ:L2.St}{H:Hp}
end
end G
namespace L2
open PySem PySem.Spec PyProof.Rows
def TL (H:Hp):List (List Int)->List V->Prop
 | [],[]=>True
 | z::b,x::c=>(∃a,x=.ref a/\H a=some (.tup (z.map V.int)))/\TL H b c
 | _,_=>False
open PySem.W (KasT)
def Lv (n:Nat) {c:Type} (Pr:c->Prop):KasT c->Prop
 | .ret a=>Pr a
 | .ask i j k=>i<n/\j<n/\∀b,Lv n Pr (k b)
theorem Lv.bind {n:Nat}{d e:Type}{Pr:d->Prop}{c:e->Prop}{f:d->KasT e}:∀{t:KasT d},Lv n Pr t->(∀a,Pr a->Lv n c (f a))->Lv n c (t.bind f)
 | .ret a,h,g=>g a h
 | .ask _ _ k,h,g=>⟨h.1,h.2.1,λb=>Lv.bind (t:=k b) (h.2.2 b) g⟩
variable {n:Nat}
def Lv.ite {a:Type}{Pr:a->Prop}{c:Prop} [Decidable c] {t u:KasT a} (b:Lv n Pr t) (d:Lv n Pr u):Lv n Pr (if c then t else u):=by
 by_cases h:c
 .rw[ZB h];exact b
 .rw[ZC h];exact d
def pX (n:Nat) (p:Array Nat):Prop:=p.toList.Perm (P0 n)
variable {p:Array Nat}
def pX.lt (h:pX n p) (b:0<n) (x:Nat):p.getD x 0<n:=by
 by_cases a:x<p.size
 .have e:p.getD x 0=p[x]:=by simp[oW,a]
  rw[e];have:p[x]∈p.toList:=by simp
  exact ZT.mp (h.mem_iff.mp this)
 .have e:p.getD x 0=0:=by simp[oW,a]
  rw[e];exact b
def pX.rev {i j:Nat}(h:pX n p):pX n (W.kas_rev p i j):=(ZQ.mp (mirror_perm p i j _)).trans h
def pX.bub {i j:Nat}(h:pX n p):pX n (RM p i j):=(ZQ.mp (bubble_perm p i j)).trans h
section
variable {n:Nat} (hn:0<n)
include hn
theorem BF {p:Array Nat} (a:pX n p):∀(f m:Nat),Lv n (λ_=>True) (W.kas_asc p f m)
 | 0,m=>trivial
 | f+1,m=>⟨a.lt hn _,a.lt hn _,λb=>Lv.ite trivial (BF a f (m+1))⟩
theorem rp:∀(f:Nat) {p:Array Nat} (m q:Nat),pX n p->Lv n (λr=>pX n r.1) (W.kas_desc f p m q)
 | 0,p,m,q,a=>a
 | f+1,p,m,q,a=>⟨a.lt hn _,a.lt hn _,λb=>Lv.ite (Lv.ite (rp f _ _ a.rev) (rp f _ _ a)) ⟨a.lt hn _,a.lt hn _,λd=>Lv.ite a (rp f _ _ a)⟩⟩
variable {p:Array Nat}
def yX (c:pX n p) (a b:Nat):Lv n (λr=>pX n r.2) (W.kas_tail3 a b p):=by unfold W.kas_tail3;exact Lv.bind (BF hn c.rev _ _) λ_ _=>c.rev
def qy (d:pX n p) (a b:Nat):Lv n (λr=>pX n r.2) (UP a b p):=by unfold UP;exact Lv.bind (rp hn _ _ _ d) λr c=>Lv.ite (yX hn c.rev _ _) (yX hn c _ _)
def Jc (b:pX n p) (a:Nat):Lv n (λr=>pX n r.2) (W.kas_count a p):=by unfold W.kas_count;exact Lv.bind (BF hn b _ _) λm _=>Lv.ite b (Lv.ite ⟨b.lt hn _,b.lt hn _,λc=>Lv.ite b (qy hn b.rev _ _)⟩ (qy hn b _ _))
theorem sZ {p:Array Nat} (a:pX n p) (k:Nat):∀(f l r:Nat),Lv n (λ_=>True) (W.kas_place p k f l r)
 | 0,l,r=>trivial
 | f+1,l,r=>by unfold W.kas_place;exact Lv.ite trivial ⟨a.lt hn _,a.lt hn _,λc=>Lv.ite (sZ a k f _ _) (sZ a k f _ _)⟩
theorem Jd:∀(f:Nat) {p:Array Nat} (k:Nat),pX n p->Lv n (pX n) (W.kas_bin f p k)
 | 0,p,k,a=>a
 | f+1,p,k,a=>Lv.bind (sZ hn a _ _ _ _) λl _=>Jd f _ a.bub
def Mm:Lv n (pX n) (jD n):=by unfold jD;have b:pX n (U3 (P0 n)):=bT _;exact Lv.bind (Jc hn b _) λr a=>Lv.ite (Jd hn _ _ a) a
end
end L2
namespace L2
open PySem PySem.Spec PyProof.Rows
section
variable {prog:j0}{w:w5}{A:A3}{E:b9->d9->Prop}{s:d9}
def UG (h:Heap) (it d:Addr) (i n ep:Nat) (a:Addr):Prop:=∃(f:Bool) (ok b:b9),FW h it d i n ep ok b a f
variable {it d:Addr}{od:Obj}{i ep:Nat}{es:Array J2}
def ze {a:Addr}{H:Obj}{h:J2}{Q:Option b9->d9->Prop} (c:UG s.heap it d i es.size ep a) (K:s.heap.get? a=some H) (I:a≠it)
  (x:s.heap.get? d=some od) (y:od.data=.dict es ep) (L:es[i]?=some h)
  (M:∀z,UG z it d (i+1) es.size ep a->z.get? s.heap.objs.size=some { cls:=.type "tuple",data:=.seq #[h.key,h.val] }->z.objs.size=s.heap.objs.size+1 ->
   (∀b o,b≠it->s.heap.get? b=some o->z.get? b=some o)->Q (some (.ref s.heap.objs.size)) { s with heap:=z }):j8 (n6 prog w) A (Y3 (.ref it)) Q E s:=by
 obtain⟨k,g,u,v,os⟩:=s;obtain⟨f,ok,C,c⟩:=c;have p:fF ⟨k,g,u,v,os⟩ (.ref it) "dict_itemiterator":=⟨_,c,rfl⟩
 unfold Y3;refine b7 (S8 (F6 (name:=K9 "__next__") p K4 (G1 K4 p bA ?_ (bj _))));refine b7 (f9 (b7 (b7 ?_)));first|refine b7 (K0 p (f9 (b7 (bJ c rfl ?_))))|refine b7 (N5 p (f9 (b7 (bJ c rfl ?_))))
 have own:M5 "dict_itemiterator"=true:=by decide
 simp only[own,if_true];show j8 _ _ (if (r6 d == B4)=true then _ else _) _ _ _;rw[ZC (show ¬ ((r6 d == B4)=true) from v8)];refine b7 (f9 (b7 (Z1 x y ?_)));rw[ZC (by simp)];refine b7 (f9 (b7 (aP x y ?_)));rw[ZC (by simp)];refine f9 ?_;simp only[show ¬ ((i:Int)<0) from by lia,Zq,M9,L];refine b7 ?_;first|refine b7 (K0 p (f9 (b7 (V7 p ?_))))|refine b7 (N5 p (f9 (b7 (V7 p ?_))))
 show j8 _ _ (iO (.ref it) 3 (N6 ((i:Int)+1)) >>= _) _ _ ⟨k,g,u,v,os⟩;refine b7 (F0 c (by simp) λr l b1=>?_);replace b1:F5 it k r:=b1
 replace l:FW r it d (i+1) es.size ep ok C a f:=by
  have e:((i+1:Nat):Int)=(i:Int)+1:=by lia
  unfold FW;rw[e];simpa [N6] using l
 have B:fF ⟨r,g,u,v,os⟩ (.ref it) "dict_itemiterator":=⟨_,l,rfl⟩
 refine b7 (F2 (b7 (V7 B (b7 (V7 B ?_)))));show j8 _ _ (X9 (.ref it) 6 h.key h.val) _ _ ⟨r,g,u,v,os⟩;unfold X9;refine b7 (fU ?_);have z1:r.objs.size=k.objs.size:=b1.1;have J:it<k.objs.size:=i5 c;obtain⟨m,j⟩:∃m,m=r.push { cls:=.type "tuple",data:=.seq #[h.key,h.val] }:=⟨_,rfl⟩
 have n:FW m it d (i+1) es.size ep ok C a f:=by rw[j];exact f6 _ l
 have N:m.get? k.objs.size=some { cls:=.type "tuple",data:=.seq #[h.key,h.val] }:=by rw[j,<- z1];exact j7 _ rfl
 have z2:m.objs.size=k.objs.size+1:=by rw[j,D7,z1]
 have k2:∀b o,b≠it->k.get? b=some o->m.get? b=some o:=λb o D e=>by rw[j];exact f6 _ (b1.extBut b o D e)
 show j8 _ _ (W0 (.ref it) >>= _) _ _ ⟨r.push { cls:=.type "tuple",data:=.seq #[h.key,h.val] },g,u,v,os⟩;rw[z1,<- j];have a2:m.get? a=some H:=k2 a H I K;refine b7 ?_;unfold W0;refine b7 (D5 n rfl (x:=N6 a) rfl ?_);show j8 _ _ (loadIfAlive ((a:Int).toNat) >>= _) _ _ _;rw[M9];refine b7 (W.kdx_alive a2 ?_);simp only[Option.isNone_some,F8,Zq];refine b7 (D5 n rfl (x:=.bool f) rfl ?_);have fin:∀q:Heap,FW q it d (i+1) es.size ep ok C a true->F5 it m q->Q (some (.ref k.objs.size)) ⟨q,g,u,v,os⟩:=λq t b3 =>
  M q ⟨true,ok,C,t⟩ (b3.extBut _ _ (D2 J) N) (by show q.objs.size=k.objs.size+1;rw[b3.1,z2]) λb o D e=>b3.extBut b o D (k2 b o D e)
 cases f with
 | true =>
  rw[ZC (show ¬ ((R9 true != R9 true)=true) from v8)];refine f9 ?_;simp only[F8,Zq];exact f9 (f9 ⟨_,rfl,f9 (fin m n (yf _ _))⟩)
 | false =>
  rw[ZB (show (R9 false != R9 true)=true from rfl)];refine b7 (F0 n (by simp) λq t b3=>?_);refine f9 ?_;simp only[F8,Zq];exact f9 (f9 ⟨_,rfl,f9 (fin q t b3)⟩)
def BR {a:Addr}{Q:Option b9->d9->Prop} (k:A.handled=none) (b:UG s.heap it d i es.size ep a)
  (e:s.heap.get? d=some od) (g:od.data=.dict es ep) (h:es.size<=i) (l:∀j,gB it s.heap j->Q none { s with heap:=j }):j8 (n6 prog w) A (Y3 (.ref it)) Q E s:=by
 obtain⟨f,ok,m,b⟩:=b;have c:s.TypeIs (.ref it) "dict_itemiterator":=⟨_,b,rfl⟩
 unfold Y3;refine b7 (S8 (F6 (name:=K9 "__next__") c K4 (G1 K4 c bA ?_ (bj _))));refine b7 (f9 (b7 (b7 ?_)));first|refine b7 (K0 c (f9 (b7 (bJ b rfl ?_))))|refine b7 (N5 c (f9 (b7 (bJ b rfl ?_))))
 have own:M5 "dict_itemiterator"=true:=by decide
 simp only[own,if_true];show j8 _ _ (if (r6 d == B4)=true then _ else _) _ _ s;rw[ZC (show ¬ ((r6 d == B4)=true) from v8)];refine b7 (f9 (b7 (Z1 e g ?_)));rw[ZC (by simp)];refine b7 (f9 (b7 (aP e g ?_)));rw[ZC (by simp)];refine f9 ?_;simp only[show ¬ ((i:Int)<0) from by lia,Zq,M9,kK h];refine b7 ?_;first|refine b7 (K0 c (f9 ?_))|refine b7 (N5 c (f9 ?_))
 show j8 _ _ (iO (.ref it) 2 .none >>= _) _ _ s;refine b7 (S7 b rfl (by simp) ?_);show j8 _ _ (xY (.type "StopIteration") [] >>= _) _ _ _;refine b7 ?_;simp only[xY,DN];refine b7 (E4 ?_ (by size_fits));refine b7 (m:=bL _ _) (qI (a:=B4) (by first|rfl | (simp only[bL];rfl)) ?_);refine E4 ?_ (by size_fits);simp only[Oj];refine b7 (uf ?_);rw[show A.in1.handled=none from k];refine b7 (f9 (qH ?_));refine b7 (hV (T:="StopIteration") (b:=true) ⟨_,j7 _ rfl,rfl⟩ ko ?_);exact f9 (l _ (((N1 ..).extBut.push _).push _))
def RH (h:Heap) (it d S:Addr) (i n ep:Nat):Prop:=(i=0/\∃ok b,dm h it d 0 n ep ok b) ∨ ∃a c,UG h it d i n ep a/\h.get? a=some c/\a≠it/\a≠S
def RH.keep {h h':Heap}{S:Addr}{n:Nat} (x:RH h it d S i n ep) (k:∀b o,b≠S->h.get? b=some o->h'.get? b=some o) (g:it≠S):RH h' it d S i n ep:=by
 obtain⟨e,ok,c,q⟩|⟨a,l,⟨f,ok,c,q⟩,m,p,j⟩:=x
 .exact .inl ⟨e,ok,c,k _ _ g q⟩
 .exact .inr ⟨a,l,⟨f,ok,c,k _ _ g q⟩,k _ _ j m,p,j⟩
def RD (h:Heap) (es:Array J2) (as:List Addr):Prop:=∀(j:Nat) (a:Addr),as[j]?=some a->∃b,es[j]?=some b/\h.get? a=some { cls:=.type "tuple",data:=.seq #[b.key,b.val] }
def BP {R:fZ->d9->Prop}{S I:Addr}(hh:A.handled=none) (C:S≠I) (Z:d≠S) (a0:d≠I) (t:od.data=.dict es ep) (hn:es.size<=j6) (res:b9) (M:Heap)
  (hR:∀f l acc c as,(∀b o,b≠S->b≠I->M.get? b=some o->f.get? b=some o)->f.get? S=some { cls:=.type "list",dict:=none,data:=.seq acc c,slots:=#[] }->as.length=es.size->as.Nodup->(∀a∈as,M.objs.size<=a)->RD f es as->acc.toList=as.map r6->R (.ok (.ret res)) { s with heap:=f,toks:=l }):
  ∀(k i:Nat) (h:Heap) (l:Nat) (acc:Array b9) (c:Nat) (as:List Addr),es.size - i=k->i<=es.size->S<h.objs.size->M.objs.size<=h.objs.size->RH h I d S i es.size ep->h.get? d=some od->h.get? S=some { cls:=.type "list",dict:=none,data:=.seq acc c,slots:=#[] } ->
  as.length=i->as.Nodup->(∀a∈as,M.objs.size<=a/\a≠S/\a≠I)->RD h es as->acc.toList=as.map r6->(∀b o,b≠S->b≠I->M.get? b=some o->h.get? b=some o) ->
  Z2 (n6 prog w) A (.builtin "list.extend.loop" ⟨[.ref S,.ref I,res],[]⟩) R { s with heap:=h,toks:=l }:=by
 intro k;induction k with
 | zero =>
  intro i h l acc c as hk hi T hz st L D U H p V u kp;have e:i=es.size:=by lia
  subst e;refine eZ Nu ?_;rw[aC bw _];show j8 _ A.in1 (Y3 (.ref I) >>= _) _ _ _;have fin:∀f,gB I h f->R (.ok (.ret res)) { s with heap:=f,toks:=l }:=λf x=>by refine hR f l acc c as (λb o X N q=>x b o N (kp b o X N q)) (x _ _ C D) U H (λa g=>(p a g).1) (λj a g=>?_) u;obtain⟨Y,e1,e2⟩:=V j a g;exact⟨Y,e1,x _ _ (p a (r0 g)).2.2 e2⟩
  obtain⟨e,ok,ov,q⟩|⟨a,oa,q,_,_,_⟩:=st
  .exact b7 (tN (s:={ s with heap:=h,toks:=l }) (A:=A.in1) hh q L t (DY e) λf x=>f9 (fin f x))
  .exact b7 (BR (s:={ s with heap:=h,toks:=l }) (A:=A.in1) hh q L t (i4 _) λf x=>f9 (fin f x))
 | succ k ih =>
  intro i h l acc c as hk hi T hz st L D U H p V u kp;have O:i<es.size:=by lia
  have hx:es[i]?=some es[i]:=Q0 O;refine eZ Nu ?_;rw[aC bw _];show j8 _ A.in1 (Y3 (.ref I) >>= _) _ _ _;have iI:I<h.objs.size:=by
   obtain⟨_,_,_,q⟩|⟨_,_,⟨_,_,_,q⟩,_⟩:=st
   .exact i5 q
   .exact i5 q
  have go:∀f n:Heap,RH f I d S (i+1) es.size ep->f.get? h.objs.size=some { cls:=.type "tuple",data:=.seq #[es[i].key,es[i].val] }->f.objs.size=h.objs.size+1->(∀b o,b≠I->h.get? b=some o->f.get? b=some o) ->
    (∀b o,b≠S->f.get? b=some o->n.get? b=some o)->n.objs.size=f.objs.size->(∃c',n.get? S=some { cls:=.type "list",dict:=none,data:=.seq (acc.push (.ref h.objs.size)) c',slots:=#[] }) ->
    Z2 (n6 prog w) A (.builtin "list.extend.loop" ⟨[.ref S,.ref I,res],[]⟩) R { s with heap:=n,toks:=l }:=λf n J z B x y zy ⟨c',v⟩=>by
   have nS:h.objs.size≠S:=D2 T;have nI:h.objs.size≠I:=D2 iI;refine ih (i+1) n l (acc.push (.ref h.objs.size)) c' (as++[h.objs.size]) (by lia) O (by rw[zy,B];exact M8 T) (by rw[zy,B];exact Nat.le_succ_of_le hz) (J.keep y C.symm) (y _ _ Z (x _ _ a0 L)) v (by rw[y9,U];rfl) ?_ (λa g=>?_) (λj a g=>?_) ?_ (λb o X N q=>y _ _ X (x _ _ N (kp b o X N q)))
   .rw[List.nodup_append];refine⟨H,by simp,λa g b hb=>?_⟩;rw[ZZ.mp hb];obtain⟨j,hj⟩:=ZV.mp g;obtain⟨Y,_,e2⟩:=V j a hj;exact y7 (i5 e2)
   .rcases ZX.mp g with q|q
    .exact p a q
    .rw[ZZ.mp q];exact⟨hz,nS,nI⟩
   .rw[List.getElem?_append] at g;split at g
    .obtain⟨Y,e1,e2⟩:=V j a g;have hm:=p a (r0 g);exact⟨Y,e1,y _ _ hm.2.1 (x _ _ hm.2.2 e2)⟩
    .rename_i hj;have a1:j - as.length=0:=by
      cases a2:j - as.length with
      | zero=>rfl
      | succ m=>rw[a2] at g;cases g
     rw[a1] at g;cases g;have ej:j=i:=by lia
     subst ej;exact⟨es[j],hx,y _ _ nS z⟩
   .rw[eJ,u,v9];rfl
  have step:∀f:Heap,RH f I d S (i+1) es.size ep->f.get? h.objs.size=some { cls:=.type "tuple",data:=.seq #[es[i].key,es[i].val] }->f.objs.size=h.objs.size+1->(∀b o,b≠I->h.get? b=some o->f.get? b=some o) ->
    j8 (n6 prog w) A.in1 (xX S (·.push (.ref h.objs.size))) (λ_ P=>Z2 (n6 prog w) A (.builtin "list.extend.loop" ⟨[.ref S,.ref I,res],[]⟩) R P) (λe P=>R (.error e) P) { s with heap:=f,toks:=l }:=λf J z B x=>by
   have v:=x _ _ C D;have Q:acc.size=i:=by rw[<- u9,u,d8,U]
   refine Aj v rfl (go f _ J z B x (λb o hb q=>(E2 _ _ (G2 hb)).trans q) (uq ..) ⟨_,K2 _ v rfl⟩) (by rw[Q];lia) (by show (acc.push _).size<=j6+1;rw[Array.size_push,Q];lia)
  obtain⟨e,ok,ov,q⟩|⟨a,oa,q,g,K,a3⟩:=st
  .subst e;refine b7 (qC (s:={ s with heap:=h,toks:=l }) (A:=A.in1) q L t hx λf z1 z B x=>?_);show j8 _ A.in1 (xX S (·.push (.ref h.objs.size)) >>= _) _ _ _;exact b7 (C4 (step f (.inr ⟨h.objs.size,_,⟨false,_,_,z1⟩,z,D2 iI,D2 T⟩) z B x) (λ_ P r=>f9 ⟨iq bw _,r⟩) λ_ _ r=>r)
  .refine b7 (ze (s:={ s with heap:=h,toks:=l }) (A:=A.in1) q g K L t hx λf z1 z B x=>?_);show j8 _ A.in1 (xX S (·.push (.ref h.objs.size)) >>= _) _ _ _;exact b7 (C4 (step f (.inr ⟨a,oa,z1,x _ _ K g,K,a3⟩) z B x) (λ_ P r=>f9 ⟨iq bw _,r⟩) λ_ _ r=>r)
end
section
variable {prog:j0}{w:w5}{A:A3}{E:b9->d9->Prop}{s:d9}{v d:Addr}{od:Obj}{es:Array J2}{ep:Nat}
def xm {R:fZ->d9->Prop} (I:A.handled=none) (u:s.heap.IsItemsView v d) (k:s.heap.get? d=some od) (n:od.data=.dict es ep) (J:es.size<=j6) {S:Addr} (x:S≠v) (p:d≠S) (res:b9) (C:s.heap.get? S=some { cls:=.type "list",data:=.seq #[] 0 })
  (K:∀l q i c as,(∀b o,b≠S->s.heap.get? b=some o->l.get? b=some o)->l.get? S=some { cls:=.type "list",dict:=none,data:=.seq i c,slots:=#[] }->as.length=es.size->as.Nodup->(∀a∈as,s.heap.objs.size<=a)->RD l es as->i.toList=as.map r6->R (.ok (.ret res)) { s with heap:=l,toks:=q }):
  j8 (n6 prog w) A.in1 (br (.ref S) (.ref v) res) (λfin t=>match fin with | .done f=>R (.ok f) t | .again D=>D.quiet=true/\Z2 (n6 prog w) A D R t) (λe t=>R (.error e) t) s:=by
 have H:S<s.heap.objs.size:=i5 C;have ld:d<s.heap.objs.size:=i5 k;have run:∀(h:Heap) (c1 q:Nat),(∀b o,b≠S->(s.heap.push { cls:=.type "dict_itemiterator",data:=.fields #[.none,.bool false,.ref d,.int 0 0,.int es.size 0,.int ep 0,.none,.none] }).get? b=some o->h.get? b=some o)->s.heap.objs.size<=h.objs.size ->
   h.get? S=some { cls:=.type "list",data:=.seq #[] c1 }->Z2 (n6 prog w) A (.builtin "list.extend.loop" ⟨[.ref S,.ref s.heap.objs.size,res],[]⟩) R { s with heap:=h,toks:=q }:=by
  intro h c1 q y L g;have M:=y s.heap.objs.size _ (D2 H) (j7 _ rfl);exact BP (s:=s) I (y7 H) p (y7 ld) n J res s.heap (λl z i c as k1 k2 k3 k4 k5 k6 k7=>K l z i c as (λb o m e=>k1 b o m (y7 (i5 e)) e) k2 k3 k4 k5 k6 k7)
   es.size 0 h q #[] c1 [] (rK _) (A6 _) (i5 g) L (.inl ⟨rfl,.none,.none,M⟩) (y d _ p (f6 _ k)) g rfl Rp (λ_ N=>nomatch N) (λj a O=>by simp at O) rfl (λb o m _ e=>y b o m (f6 _ e))
 unfold br;refine b7 (wpAny_typeOf (T:="dict_items") u.typeIs ?_);have c1:rj (.ref S) (.ref v)=false:=by simp[rj,x]
 have c2:(iP "dict_items" == iP "list")=false:=by decide
 have c3:(iP "dict_items" == iP "tuple")=false:=by decide
 simp only[c1,c2,c3,oV,F8,Zq];refine b7 (qB u k n ?_);have g:=f6 { cls:=.type "dict_itemiterator",data:=.fields #[.none,.bool false,.ref d,.int 0 0,.int es.size 0,.int ep 0,.none,.none] } C;refine b7 (F2 (W.kdx_hint (let ⟨o,P,Q,_⟩:=u;⟨o,f6 _ P,Q⟩) ?_));refine wpAny_ite_split (λ_=>?_) (λ_=>f9 ⟨iq bw _,run _ 0 _ (λb o _ e=>e) (by show s.heap.objs.size<=(s.heap.push _).objs.size;rw[D7];exact ae _) g⟩);refine b7 (X6 (b7 ?_));show j8 _ _ (xX S (·.push .none) >>= λ_=>xX S (·.pop)) _ _ _;refine b7 (Aj g rfl ?_);have r:=K2 (S9 (·.push B4)) g rfl;refine Aj (hz:=by seq_fits) r rfl ?_;have B:=K2 (S9 (·.pop)) r rfl;refine f9 ⟨iq bw _,run _ _ _ (λb o m e=>(E2 _ _ (G2 m)).trans ((E2 _ _ (G2 m)).trans e)) ?_ B⟩;show s.heap.objs.size<=(((s.heap.push _).update S _).update S _).objs.size;rw[uq,uq,D7];exact ae _
def uI {Q:List b9->d9->Prop} (H:A.handled=none) (D:s.heap.IsItemsView v d) (j:s.heap.get? d=some od) (n:od.data=.dict es ep) (I:es.size<=j6)
  (h:∀(h':Heap) (g:Nat) (as:List Addr),s.heap.objs.size<h'.objs.size->(∀b o,s.heap.get? b=some o->h'.get? b=some o)->as.length=es.size->as.Nodup->(∀a∈as,s.heap.objs.size<=a)->RD h' es as->Q (as.map r6) { s with heap:=h',toks:=g }):
  j8 (n6 prog w) A (Um (.ref v)) Q E s:=by
 have J:v<s.heap.objs.size:=let ⟨_,p,_⟩:=D;i5 p
 have ld:d<s.heap.objs.size:=i5 j;unfold Um;refine b7 (wpAny_runValue (eZ Ks ?_));rw[aC Kr _];show j8 _ A.in1 (KJ [] >>= λl=>again (.builtin "list.__iadd__" ⟨[l,.ref v],[]⟩)) _ _ s;refine b7 (E4 (f9 ⟨iq kG _,eZ Rr ?_⟩));rw[aC kG _];have r:(s.heap.push { cls:=.type "list",data:=.seq ([]:List b9).toArray }).get? s.heap.objs.size=some { cls:=.type "list",data:=.seq #[] }:=j7 _ rfl;have t:(s.heap.push { cls:=.type "list",data:=.seq ([]:List b9).toArray }).objs.size=s.heap.objs.size+1:=D7 ..;show j8 _ A.in1 (br (.ref s.heap.objs.size) (.ref v) (.ref s.heap.objs.size)) _ _ _;have key:=xm (prog:=prog) (w:=w) (A:=A) (s:={ s with heap:=s.heap.push { cls:=.type "list",data:=.seq ([]:List b9).toArray } }) (es:=es) (ep:=ep)
  (R:=λ(q:fZ) (u:d9)=>∃(h':Heap) (g:Nat) (c:Array b9) (i:Nat) (as:List Addr),q=.ok (.ret (.ref s.heap.objs.size))/\u={ s with heap:=h',toks:=g } /\
   (∀b o,s.heap.get? b=some o->h'.get? b=some o)/\h'.get? s.heap.objs.size=some { cls:=.type "list",dict:=none,data:=.seq c i,slots:=#[] }/\as.length=es.size/\as.Nodup/\(∀a∈as,s.heap.objs.size<=a)/\RD h' es as/\c.toList=as.map r6)
  H (let ⟨o,p,x⟩:=D;⟨o,f6 _ p,x⟩) (f6 _ j) n I (D2 J) (y7 ld) (.ref s.heap.objs.size) r
  (λh' g c i as K z L B C M k=>⟨h',g,c,i,as,rfl,rfl,λb o e=>K b o (y7 (i5 e)) (f6 _ e),z,L,B,(λa N=>j9 (by rw[t];exact ae _) (C a N)),M,k⟩)
 have m:∀(h':Heap) (g:Nat) (c:Array b9) (i:Nat) (as:List Addr),(∀b o,s.heap.get? b=some o->h'.get? b=some o)->h'.get? s.heap.objs.size=some { cls:=.type "list",dict:=none,data:=.seq c i,slots:=#[] }->as.length=es.size->as.Nodup->(∀a∈as,s.heap.objs.size<=a)->RD h' es as->c.toList=as.map r6 ->
   j8 (n6 prog w) A (do
    let o <- load s.heap.objs.size
    match o.data with
    | .seq O _=>pure O.toList
    | _=>unsupported "internal:collect") Q E { s with heap:=h',toks:=g }:=λh' g c i as k1 k2 k3 k4 k5 k6 k7=>by
  refine b7 (RI k2 (f9 ?_));show Q c.toList _;rw[k7];exact h h' g as (i5 k2) k1 k3 k4 k5 k6
 refine C4 key (λfin u x=>?_) λe u x=>?_
 .cases fin with
  | done f =>
   obtain⟨h',g,c,i,as,e,rfl,k1,k2,k3,k4,k5,k6,k7⟩:=x;cases e;exact m h' g c i as k1 k2 k3 k4 k5 k6 k7
  | again c1 =>
   refine⟨x.1,dz x.2 λq R y=>?_⟩;obtain⟨h',g,c,i,as,rfl,rfl,k1,k2,k3,k4,k5,k6,k7⟩:=y;exact m h' g c i as k1 k2 k3 k4 k5 k6 k7
 .obtain⟨_,_,_,_,_,P,_⟩:=x;cases P
end
def FA (h:Heap) (v:b9):Prop:=∃(a:Addr) (b:List b9) (ns:List Int),v=.ref a/\Uv h a b.toArray/\bH b ns
section
variable {prog:j0}{w:w5}{A:A3}{E:b9->d9->Prop}{s:d9}
def Bg:∀a:List b9,(P0 a.length).map (λi=>a.getD i B4)=a:=λa=>by
 apply Nt
 .simp
 .intro i c b;simp[b]
def Iw {vs:List b9}{p:Array Nat} (h:pX vs.length p):(p.toList.map λi=>vs.getD i B4).Perm vs:=by have:=h.map (λi=>vs.getD i B4);rw[Bg] at this;exact this
def Rc (An:Nat->Nat->Bool->Prop) {c:Type}:W.KasT c->c->Prop
 | .ret a,x=>x=a
 | .ask i j k,x=>∃b,An i j b/\Rc An (k b) x
theorem Rc.uniq {An:Nat->Nat->Bool->Prop}{f:Type} (g:∀i j b a,An i j b->An i j a->b=a):∀{t:W.KasT f}{x y:f},Rc An t x->Rc An t y->x=y
 | .ret _,_,_,c,d=>(show _=_ from c).trans (show _=_ from d).symm
 | .ask i j k,_,_,⟨b,h,c⟩,⟨a,e,d⟩=>Rc.uniq g (t:=k b) c (by rw[g i j b a h e];exact d)
theorem Lv.wpA {n:Nat}{d:Type}{Pr:d->Prop}{An:Nat->Nat->Bool->Prop}{c:Nat->Nat->(Bool->d9->Prop)->d9->Prop}{S:d9->Prop}{Q:d->d9->Prop}
  (m:∀i j C s,i<n->j<n->S s->(∀b e,An i j b->S e->C b e)->c i j C s):∀{t:W.KasT d}{s:d9},(∀a s,Pr a->Rc An t a->S s->Q a s)->Lv n Pr t->S s->t.kasWp c Q s
 | .ret a,s,f,h,g=>f a s h rfl g
 | .ask i j k,s,f,h,g=>m i j _ s h.1 h.2.1 g λb e o l=>Lv.wpA m (t:=k b) (λa s p q r=>f a s p ⟨b,o,q⟩ r) (h.2.2 b) l
def RcL (An:Nat->Nat->Bool->Prop) (vs a:List b9):Prop:=(vs.length<2/\a=vs) ∨ 2<=vs.length/\∃p:Array Nat,pX vs.length p/\Rc An (jD vs.length) p/\a=p.toList.map λi=>vs.getD i B4
def Em {An:Nat->Nat->Bool->Prop}{B:Addr}{vs:List b9}{c:Nat}{P:PySem.Fin->d9->Prop} (D:s.heap.get? B=some (Y2 "list" vs.toArray c)) (H:vs.length<64)
  (Q:2<=vs.length->∀v,(∀b o,b≠B->s.heap.get? b=some o->v.get? b=some o) ->
   j8 (n6 prog w) A (keyKind' vs.toArray) (λI f=>f={ s with heap:=v }/\∀i j C,i<vs.length->j<vs.length->(∀b,An i j b->C b { s with heap:=v })->RO prog w A I vs i j C { s with heap:=v }) (λ_ _=>False) { s with heap:=v })
  (R:∀J m S,m.Perm vs->RcL An vs m->(∀b o,b≠B->s.heap.get? b=some o->J.get? b=some o)->J.get? B=some (Y2 "list" (U3 m) S)->P (.done (.ret .none)) { s with heap:=J }):j8 (n6 prog w) A (iw.«list.sort» ⟨[.ref B],[]⟩) P E s:=by
 obtain⟨e1,y⟩:∃e1,(s.heap.update B (S9 λ_=>(#[]:Array b9))).get? B=some (Y2 "list" #[] e1):=⟨_,oO D λ_=>#[]⟩
 have b1:=N1 s.heap B (S9 λ_=>(#[]:Array b9));obtain⟨d,n⟩:∃d,d=((s.heap.update B (S9 λ_=>(#[]:Array b9))).push (Y2 "tuple" vs.toArray 0)).push (Y2 "list" #[] 0):=⟨_,rfl⟩
 have r:d.get? B=some (Y2 "list" #[] e1):=by rw[n];exact f6 _ (f6 _ y)
 have k3:∀b o,b≠B->s.heap.get? b=some o->d.get? b=some o:=λb o u q=>by rw[n];exact f6 _ (f6 _ (b1.extBut b o u q))
 rw[list_sort_plain];refine b7 (listItems_at D rfl (b7 (ug D rfl ?_ (by rw[A2,R7];lia) (A6 _))));refine b7 (zS y rfl (b7 (fU ?_ (by show vs.length<=_;rw[R7];lia))));refine b7 (lU (F2 ?_) (A6 _));show j8 (n6 prog w) A _ P E { s with heap:=((s.heap.update B (S9 λ_=>(#[]:Array b9))).push (Y2 "tuple" vs.toArray 0)).push (Y2 "list" #[] 0) };rw[<- n];dsimp only;have fin:∀(st:K7) (a:List b9),(de st).map (·.2)=U3 a->a.length=vs.length->cC st=none->a.Perm vs->RcL An vs a ->
   j8 (n6 prog w) A (do
    let l:=(de st).map (·.2)
    let g:=(<- seqEpoch B) != e1
    rM (.ref B) λ_=>l
    if let some e:=cC st then rule "list.sort.comparison-raised";throw e
    if g then rule "list.sort.modified";raiseError "ValueError" "list modified during sort"
    ret .none) P E { s with heap:=d }:=λst a T U K t L=>by
  rw[T];have sz:(U3 a).size<=j6:=by rw[A2,U,R7];lia
  obtain⟨c2,M⟩:∃c2,(d.update B (S9 λ_=>U3 a)).get? B=some (Y2 "list" (U3 a) c2):=⟨_,oO r λ_=>U3 a⟩
  refine b7 (zS r rfl (b7 (ug r rfl ?_ (A6 _) (j9 sz (ae _)))));rw[K];simp only[bne_self_eq_false,F8,Zq];exact f9 (R _ a c2 t L (λb o u q=>(N1 d B _).extBut b o u (k3 b o u q)) M)
 by_cases N:2<=vs.length
 .have h:¬ vs.toArray.size<2:=by rw[A2];lia
  rw[ZC h,ZC h];refine b7 (C4 (Q N d k3) (λI s0 V=>?_) λ_ _ x=>x.elim);obtain⟨rfl,ask⟩:=V;have z:(jD vs.length).kasWp (RO prog w A I vs) (λp f=>f={ s with heap:=d }/\pX vs.length p/\Rc An (jD vs.length) p) { s with heap:=d } :=
   Lv.wpA (An:=An) (S:=λf=>f={ s with heap:=d }) (Pr:=pX vs.length) (λi j C f X Y O Z=>by subst O;exact ask i j C X Y λb u=>Z b _ u rfl) (λp f t hr O=>⟨O,t,hr⟩) (Mm (by lia)) rfl
  refine b7 (C4 (W.kat_run (Q:=λk f=>f={ s with heap:=d }/\∃p:Array Nat,(pX vs.length p/\Rc An (jD vs.length) p)/\p.size=vs.length/\de k=p.map (W.kas_item (vs.toArray.zip vs.toArray))/\cC k=none) rfl N H (λp' k f a1 a2 a3 a4=>⟨a4.1,p',a4.2,a1,a2,a3⟩) z) ?_ λ_ _ e=>e);rintro⟨⟨⟩,k⟩ f ⟨rfl,p,t,hps,har,K⟩;dsimp only;exact fin k _ (W.kat_snds rfl har) (by rw[d8,u9,hps]) K (Iw t.1) (.inr ⟨N,p,t.1,t.2,rfl⟩)
 .have h:vs.toArray.size<2:=by rw[A2];lia
  rw[ZB h,ZB h];refine b7 (f9 (b7 ?_));rw[KZ];refine f9 ?_;exact fin _ vs (by show ((vs.toArray.zip vs.toArray).map (·.2))=vs.toArray;apply ZP.mp;simp[uj]) rfl rfl (bT _) (.inl ⟨by lia,rfl⟩)
end
theorem oj {c d:Type}{f:c->d}:∀{l:List d}{m:List c},l.Perm (m.map f)->∃a:List c,a.Perm m/\l=a.map f
 | [],m,h=>by
  have e:m.map f=[]:=h.nil_eq.symm;rw[List.map_eq_nil_iff] at e;exact⟨[],by rw[e],rfl⟩
 | b::l,m,h=>by
  have g:b∈m.map f:=h.mem_iff.mp f7;obtain⟨x,i,e⟩:=ZY.mp g;obtain⟨p,q,em⟩:=List.append_of_mem i;subst em e;have j:(f x::l).Perm (f x::(p++q).map f):=h.trans (by rw[v9,t8,v9];exact List.perm_middle)
  obtain⟨a,k,e3⟩:=oj (m:=p++q) j.cons_inv;exact⟨x::a,(k.cons x).trans List.perm_middle.symm,by rw[e3];rfl⟩
def QW (H:Hp):List (List O0 × V)->List V->Prop
 | [],[]=>True
 | (k,x)::a,y::c=>(∃p b,y=.ref p/\H p=some (.tup [.ref b,x])/\H b=some (.tup (k.map kV)))/\QW H a c
 | _,_=>False
theorem QW.mk {H:Hp}:∀{L:List (Addr × (List O0 × V))},(∀t∈L,∃b,H t.1=some (.tup [.ref b,t.2.2])/\H b=some (.tup (t.2.1.map kV)))->QW H (L.map (·.2)) (L.map λt=>V.ref t.1)
 | [],_=>trivial
 | (a,(k,x))::L,h=>⟨let ⟨b,e1,e2⟩:=h _ f7;⟨a,b,rfl,e1,e2⟩,QW.mk λt c=>h t (g0 _ c)⟩
def qF (v d:Addr):HO:=.ext λh=>h.get? v=some { cls:=.type "dict_items",data:=.fields #[.ref d] }
section
variable {X:Cx}{pins:List (Addr × Obj)}{σ:St}{H:Hp}{s:d9}
def D1.lays {N:Hp}{h':Heap}{t':Nat} (I:D1 X pins σ H s) (k:∀b u,s.heap.get? b=some u->h'.get? b=some u)
  (ok:∀b o,s.heap.objs.size<=b->N b=some o->O4 X.prog X.w (λb=>if b<s.heap.objs.size then H b else N b) h' b o):
  D1 X pins σ (λb=>if b<s.heap.objs.size then H b else N b) { s with heap:=h',toks:=t' }:=by
 have lo:∀b o,H b=some o->(λb=>if b<s.heap.objs.size then H b else N b) b=some o:=λb o e=>by show (if b<s.heap.objs.size then H b else N b)=some o;rw[ZB (I.hok.lt e)];exact e
 refine I.un ⟨λb o q _ _ _=>k b o q,λb o q _ _ _=>⟨o.slots,k b o q⟩,λb o q n _=>?_,λb o q _=>⟨o,k b o q⟩,λb f q=>lo b _ q,λb o u q=>lo b _ q,λb g q=>⟨#[],(lo b _ q).trans (by simp)⟩⟩ λb o e=>?_
 .show (if b<s.heap.objs.size then H b else N b)=none;rw[ZB (i5 q)];exact n
 .by_cases a:b<s.heap.objs.size
  .have d:H b=some o:=by
    have:(if b<s.heap.objs.size then H b else N b)=some o:=e
    rwa [ZB a] at this
   exact(I.hok b o d).stay (λc v _ q=>k c v q) (λc q=>lo c _ q) λc f q=>lo c _ q
  .have d:N b=some o:=by
    have:(if b<s.heap.objs.size then H b else N b)=some o:=e
    rwa [ZC a] at this
   exact ok b o (Oo a) d
def OI (c:TE):TE:=λσ H Q=>c σ H λx a=>∃d b,x=.ref d/\a d=some (.dT b)/\∀v,a v=none->Q (.ref v) (C3 a v (qF v d))
def Ij {e:Expr}{c cpos:Pos}{p:TE} (t:PE X e p) (f:eI e "items" X.env (eval e X.env)=eval e X.env:=by rfl) (g:(c.endLine == cpos.line)=true:=by rfl):
  PE X (.Call (.Attribute e "items" c) [] [] cpos) (OI p):=by
 intro pins s σ H Q I h;refine Ki f g (S6 (t pins s σ H _ I h) λv k ⟨x,r,m,u,d,n,w,y,q⟩=>?_);subst w;cases u;obtain⟨_,l,_,_,o,_,_,i,j,_⟩:=(show O4 X.prog X.w r k.heap d (.dT n) from m.hok d _ y)
 refine⟨"dict","dict.items",du,jE,xJ,⟨o,i,j.1⟩,λa e=>by cases e;exact⟨o,i,j.2.1⟩,bB rfl (FI ?_)⟩;refine tM l ⟨o,i,j.1⟩ ?_;have z:r k.heap.objs.size=none:=m.hok.fresh (i4 _);refine⟨.ref k.heap.objs.size,_,m.laid (t':=k.toks) (o:=qF k.heap.objs.size d) (λb o e=>f6 _ e) (i4 _) ?_,rfl,q _ z⟩;exact⟨j7 _ rfl,⟨_,j7 _ rfl⟩,λA B a b=>b _ a⟩
theorem mT {g:Type}:∀{as:List Addr}{bs:List g}{j:Nat}{a:Addr}{b:g},as.Nodup->as[j]?=some a->bs[j]?=some b->(as.zip bs).lookup a=some b
 | [],_,j,a,b,_,h,_=>by simp at h
 | x::as,[],j,a,b,_,_,h=>by simp at h
 | x::as,y::bs,0,a,b,_,c,d=>by
  simp at c d;subst c d;rw[bF,G6];simp
 | x::as,y::bs,j+1,a,b,f,c,d=>by rw[dD] at f;have i:a∈as:=r0 (show as[j]?=some a by simpa using c);have ne:a≠x:=λe=>f.1 (e ▸ i);rw[bF,G6,show (a == x)=false from Zr.mpr ne];exact mT f.2 (by simpa using c) (by simpa using d)
theorem tj {c:Type}:∀{as:List Addr}{bs:List c}{a:Addr}{b:c},(as.zip bs).lookup a=some b->∃j:Nat,as[j]?=some a/\bs[j]?=some b
 | [],_,a,b,h=>by simp at h
 | x::as,[],a,b,h=>by simp at h
 | x::as,y::bs,a,b,h=>by
  rw[bF,G6] at h;by_cases e:a=x
  .subst e;simp at h;exact⟨0,rfl,by rw[h];rfl⟩
  .rw[show (a == x)=false from Zr.mpr e] at h;obtain⟨j,d,f⟩:=tj h;exact⟨j+1,by simpa using d,by simpa using f⟩
def My (ns:List Int):(ns.map (cx:Int->O0)).map kV=ns.map V.int:=by rw[R8];rfl
def MD {P:j0}{w:w5}{h:Heap}{q:Addr}{ms:List Int} (ok:dQ P w H h) (e:H q=some (.tup (ms.map V.int))):FA h (.ref q):=by
 obtain⟨_,a,r,t⟩:=(show O4 P w H h q (.tup (ms.map V.int)) from ok q _ e)
 exact⟨q,a,ms,rfl,t,tQ r⟩
def FA.keep {h h':Heap}{v:b9} (x:FA h v) (k:∀a o,v=.ref a->h.get? a=some o->h'.get? a=some o):FA h' v:=by obtain⟨a,b,ns,e,⟨o,c,r⟩,i⟩:=x;exact⟨a,b,ns,e,⟨o,k a o e c,r⟩,i⟩
theorem tG {h:Heap}:∀{as:List Addr}{fs:List b9},(∀(j:Nat) (a:Addr),as[j]?=some a->∃f q,fs[j]?=some f/\h.get? a=some { cls:=.type "tuple",data:=.seq #[f,q] })->as.length=fs.length->W.KatTups h (as.map r6) fs
 | [],[],_,_=>W.KatTups.nil
 | a::as,f::fs,d,c=>by
  obtain⟨g,q,e1,e2⟩:=d 0 a rfl;cases e1;exact W.KatTups.cons e2 rfl rfl rfl (tG (λj b e=>by
   obtain⟨f,q,e1,e2⟩:=d (j+1) b (by simpa using e);exact⟨f,q,by simpa using e1,e2⟩) (by simpa using c))
 | [],_::_,_,c=>by simp at c
 | _::_,[],_,c=>by simp at c
end
section
variable {K:m9}{σ0:St}{te:TE}{H:Hp}{F:List V->Hp->Prop}
def Ft {a:Addr}{xs:List V} (t:xs.length<=j6) (Pv:Nat->List V->Hp->Prop) (j:Pv 0 [] H) (k:∀i b H,Pv i b H->b.length=i) (l:∀i b H,i<=xs.length->Pv i b H->jc K H a xs) (f:σ0[0]?=some none/\σ0[1]?=some none)
  (hs:∀i b H x,xs[i]?=some x->Pv i b H->∃r y z,x=.ref r/\jb K H r [y,z]/\te ((σ0.set 0 (some y)).set 1 (some z)) H λu d=>Pv (i+1) (b++[u]) d) (hd:∀b H,Pv xs.length b H->F b H):
  Cj (Oc K a) σ0 (EX K 2 (oB (V5 0) (oB (V5 1) JE))) ag te H F:=by
 refine⟨λi m b H=>m=xs.length - i/\i<=xs.length/\Pv i b H,⟨xs.length,by simp,A6 _,j⟩,?_⟩;rintro i m b g ⟨rfl,n,p⟩;have q:=l i b g n p;refine⟨by rw[k i b g p];lia,?_⟩;by_cases c:i<xs.length
 .refine .inr ⟨⟨xs,xs[i],q,by simp[c]⟩,λy d=>Pv (i+1) (b++[y]) d,λ_=>False,λy d q=>⟨xs.length - (i+1),by lia,rfl,c,q⟩,λ_ q=>q.elim,λx v y=>?_⟩;obtain⟨rfl,y⟩:=y;obtain⟨r,h,z1,rfl,o,s⟩:=hs i b _ x (y xs q) p;exact⟨r,[h,z1],rfl,o,rfl,h,[z1],rfl,z1,[],rfl,rfl,wk2 f _ _,s⟩
 .have e:i=xs.length:=by lia
  subst e;exact .inl ⟨⟨xs,q,i4 _⟩,hd b g p⟩
end
end L2
namespace Mq
open PySem PySem.Spec L2 Mt Md
abbrev T9:=List (List Int × Rat)
def ip:T9->List Int->Rat->T9
 | [],k,x=>[(k,x)]
 | p::D,k,x=>if p.1=k then (p.1,p.2+x)::D else p::ip D k x
def rP:T9->List Int->Rat
 | [],_=>0
 | p::D,k=>if p.1=k then p.2 else rP D k
def uF:T9->(List Int->Rat)->Rat
 | [],_=>0
 | p::D,a=>p.2*a p.1+uF D a
def eU (p:List Int × Rat) (D:T9) (a:List Int->Rat):uF (p::D) a=p.2*a p.1+uF D a:=rfl
def EK {a:List Int->Rat}{T b:T9} (h:T.Perm b):uF T a=uF b a:=by
 induction h with
 | nil=>rfl
 | cons p _ c=>rw[eU,eU,c]
 | swap p q l=>rw[eU,eU,eU,eU];grind
 | trans _ _ d e=>rw[d,e]
theorem tq (a:List Int->Rat):∀T:T9,uF T a=jG (T.map λp=>a p.1*p.2)
 | []=>rfl
 | p::T=>by rw[eU,tq a T,t8];show _=a p.1*p.2+_;grind
theorem lQ {k:List Int}{x:Rat}:∀{D:T9}{p:List Int × Rat},p∈ip D k x->p.1=k ∨ ∃q∈D,q.1=p.1
 | [],p,h=>by
  unfold ip at h;rw[ZZ.mp h];exact .inl rfl
 | q::D,p,h=>by
  unfold ip at h;split at h
  .rcases C7.mp h with z|z
   .subst z;exact .inr ⟨q,f7,rfl⟩
   .exact .inr ⟨p,g0 _ z,rfl⟩
  .rcases C7.mp h with z|z
   .subst z;exact .inr ⟨_,f7,rfl⟩
   .rcases lQ z with y|⟨r,a,e⟩
    .exact .inl y
    .exact .inr ⟨r,g0 _ a,e⟩
theorem yZ (k:List Int) (x:Rat):∀D:T9,(ip D k x).length<=D.length+1
 | []=>by unfold ip;simp
 | p::D=>by
  unfold ip;split
  .simp
  .have:=yZ k x D;rw[n5,n5];lia
def xV (D:T9):Prop:=(D.map (·.1)).Nodup
theorem CY {k:List Int}{x:Rat}:∀{D:T9},xV D->xV (ip D k x)
 | [],_=>by unfold ip xV;simp
 | p::D,h=>by
  unfold xV at h;rw[t8,dD] at h;unfold ip;split
  .unfold xV;rw[t8,dD];exact h
  .rename_i e;unfold xV;rw[t8,dD];refine⟨λz=>?_,CY h.2⟩;obtain⟨q,a,eq⟩:=ZY.mp z;obtain y|⟨r,b,c⟩:=lQ a
   .exact e (by rw[<- eq,y])
   .exact h.1 (ZY.mpr ⟨r,b,by rw[c,eq]⟩)
def pY (H:Hp) (x:Rat) (v:V):Prop:=∃q,v=.ref q/\H q=some (.tup ((fr x).map V.int))
variable {H:Hp}{x:Rat}
def pY.same {H':Hp}{v:V} (h:∀a b,H a=some (.tup b)->H' a=some (.tup b)):pY H x v->pY H' x v:=λ⟨q,e,a⟩=>⟨q,e,h _ _ a⟩
def QE (H:Hp):T9->List (List O0 × V)->Prop
 | [],[]=>True
 | p::T,b::a=>b.1=kI p.1/\pY H p.2 b.2/\QE H T a
 | _,_=>False
theorem QE.mono {H H':Hp} (h:∀a e,H a=some (.tup e)->H' a=some (.tup e)):∀{T:T9}{kvs:List (List O0 × V)},QE H T kvs->QE H' T kvs
 | [],[],_=>trivial
 | _::_,_::_,⟨a,b,c⟩=>⟨a,b.same h,QE.mono h c⟩
 | [],_::_,d=>d.elim
 | _::_,[],d=>d.elim
theorem QE.len {H:Hp}:∀{T:T9}{kvs:List (List O0 × V)},QE H T kvs->kvs.length=T.length
 | [],[],_=>rfl
 | _::_,_::_,⟨_,_,c⟩=>by rw[n5,n5,QE.len c]
 | [],_::_,a=>a.elim
 | _::_,[],a=>a.elim
theorem QE.get {H:Hp}:∀{T:T9}{kvs:List (List O0 × V)}{i:Nat}{k:List O0}{x:V},QE H T kvs->kvs[i]?=some (k,x)->∃p,T[i]?=some p/\k=kI p.1/\pY H p.2 x
 | p::_,_::_,0,_,_,⟨a,b,_⟩,h=>by cases h;exact⟨p,rfl,a,b⟩
 | _::_,_::_,i+1,_,_,⟨_,_,c⟩,h=>QE.get (i:=i) c (by simpa using h)
 | [],[],_,_,_,_,h=>by simp at h
 | [],_::_,_,_,_,d,_=>d.elim
 | _::_,[],_,_,_,d,_=>d.elim
theorem QE.val {H:Hp}{k:List Int}{z:V} (hz:pY H 0 z):∀{T:T9}{kvs:List (List O0 × V)},QE H T kvs->pY H (rP T k) ((fI kvs (kI k)).getD z)
 | [],[],_=>hz
 | p::T,f::kvs,⟨a,b,c⟩=>by
  obtain⟨g,x⟩:=f;have a:g=kI p.1:=a;subst a;unfold rP;by_cases e:p.1=k
  .rw[ZB e,jm (by rw[e])];exact b
  .rw[ZC e,gJ (λz=>e (tJ z))];exact QE.val hz c
 | [],_::_,d=>d.elim
 | _::_,[],d=>d.elim
theorem QE.any {H:Hp}{k:List Int}:∀{T:T9}{kvs:List (List O0 × V)},QE H T kvs->(kvs.any λb=>decide (b.1=kI k))=decide (k∈T.map (·.1))
 | [],[],_=>rfl
 | p::T,b::kvs,⟨a,_,c⟩=>by
  obtain⟨f,x⟩:=b;have a:f=kI p.1:=a;subst a;show (decide (kI p.1=kI k) || kvs.any _)=_;rw[QE.any c];by_cases e:p.1=k
  .rw[ZA (show kI p.1=kI k by rw[e]),Uy,ZA (by rw[<- e];simp)]
  .rw[Zz (λz=>e (tJ z)),Ab];congr 1;simp[G2 e]
 | [],_::_,d=>d.elim
 | _::_,[],d=>d.elim
theorem QE.keep {H:Hp}{k:List Int}{v:V}:∀{T:T9}{kvs:List (List O0 × V)},QE H T kvs->¬ k∈T.map (·.1)->kvs.map (λb=>if b.1=kI k then (b.1,v) else b)=kvs
 | [],[],_,_=>rfl
 | p::T,b::kvs,⟨a,_,c⟩,h=>by
  obtain⟨e,x⟩:=b;have a:e=kI p.1:=a;subst a;rw[t8,C7,not_or] at h;show (if kI p.1=kI k then (kI p.1,v) else (kI p.1,x))::kvs.map _=(kI p.1,x)::kvs;rw[ZC (λz=>h.1 (tJ z).symm),QE.keep c h.2]
 | [],_::_,d,_=>d.elim
 | _::_,[],d,_=>d.elim
theorem QE.snoc {H:Hp}{k:List Int}{x:Rat}{v:V} (e:pY H x v):∀{T:T9}{kvs:List (List O0 × V)},QE H T kvs->QE H (T++[(k,x)]) (kvs++[(kI k,v)])
 | [],[],_=>⟨rfl,e,trivial⟩
 | p::T,f::kvs,⟨a,b,c⟩=>⟨a,b,QE.snoc e c⟩
 | [],_::_,d=>d.elim
 | _::_,[],d=>d.elim
theorem DB {k:List Int}{x:Rat}:∀(D:T9),¬ k∈D.map (·.1)->ip D k x=D++[(k,x)]
 | [],_=>rfl
 | p::D,h=>by rw[t8,C7,not_or] at h;unfold ip;rw[ZC (G2 h.1),DB D h.2];rfl
theorem Cr {k:List Int}:∀(D:T9),¬ k∈D.map (·.1)->rP D k=0
 | [],_=>rfl
 | p::D,h=>by rw[t8,C7,not_or] at h;unfold rP;rw[ZC (G2 h.1),Cr D h.2]
def QE.put {k:List Int}{v:V}:∀{T:T9}{kvs:List (List O0 × V)},QE H T kvs->xV T->pY H (rP T k+x) v->QE H (ip T k x) (aK kvs (kI k) v):=by
 intro T kvs q g d;unfold aK;rw[q.any];by_cases f:k∈T.map (·.1)
 .rw[ZA f,ZB rfl];induction T generalizing kvs with
  | nil=>simp at f
  | cons p T i =>
   cases kvs with
   | nil=>exact q.elim
   | cons j kvs =>
    obtain⟨a,b,c⟩:=q;obtain⟨l,y⟩:=j;have a:l=kI p.1:=a;subst a;unfold xV at g;rw[t8,dD] at g;unfold ip;by_cases e:p.1=k
    .rw[ZB e];show QE H _ ((if kI p.1=kI k then _ else _)::kvs.map _);rw[ZB (by rw[e]),c.keep (by rw[<- e];exact g.1)];unfold rP at d;rw[ZB e] at d;exact⟨rfl,d,c⟩
    .rw[ZC e];show QE H _ ((if kI p.1=kI k then _ else _)::kvs.map _);rw[ZC (λz=>e (tJ z))];unfold rP at d;rw[ZC e] at d;have h:k∈T.map (·.1):=by rw[t8,C7] at f;exact f.resolve_left (G2 e)
     exact⟨rfl,b,i c g.2 d h⟩
 .rw[Zz f,ZC (by decide),DB T f];rw[Cr T f] at d;refine QE.snoc ?_ q;rw[show (0:Rat)+x=x by grind] at d;exact d
theorem QE.keys {H:Hp}:∀{T:T9}{kvs:List (List O0 × V)},QE H T kvs->∀b∈kvs,(∃ns:List Int,b.1=ns.map cx)/\∃(q:Addr) (ms:List Int),b.2=.ref q/\H q=some (.tup (ms.map V.int))
 | [],[],_,b,h=>by simp at h
 | p::T,g::kvs,⟨a,⟨q,e,f⟩,c⟩,b,h=>by
  obtain z|z:=C7.mp h
  .subst z;exact⟨⟨p.1,a⟩,q,_,e,f⟩
  .exact QE.keys c b z
 | [],_::_,d,_,_=>d.elim
 | _::_,[],d,_,_=>d.elim
def QE.perm :∀{T:T9}{kvs d:List (List O0 × V)},QE H T kvs->d.Perm kvs->∃e:T9,e.Perm T/\QE H e d:=by
 intro T kvs d q i;have h:=i.symm;clear i;induction h generalizing T with
 | nil=>exact⟨T,.refl _,q⟩
 | cons t _ j =>
  cases T with
  | nil=>exact q.elim
  | cons p T =>
   obtain⟨a,b,c⟩:=q;obtain⟨e,f,g⟩:=j c;exact⟨p::e,f.cons p,a,b,g⟩
 | swap x y l =>
  cases T with
  | nil=>exact q.elim
  | cons p T =>
   cases T with
   | nil=>exact q.2.2.elim
   | cons k T =>
    obtain⟨a,b,m,n,c⟩:=q;exact⟨k::p::T,List.Perm.swap _ _ _,m,n,a,b,c⟩
 | trans _ _ f g =>
  obtain⟨u,e1,o⟩:=f q;obtain⟨r,e2,s⟩:=g o;exact⟨r,e2.trans e1,s⟩
def cJ (x:Rat) (s:Int):List (Int × List Int)->T9->T9
 | [],D=>D
 | b::bs,D=>cJ x s bs (ip D b.2 (x*cut b.1 s))
def Z0 (rs:List (List Int)):T9->T9->T9
 | [],D=>D
 | p::T,D=>Z0 rs T (cJ p.2 p.1.sum (va rs p.1) D)
def sQ (rs:List (List Int)) (T:T9):T9:=Z0 rs T []
def ng (rs:List (List Int)):Nat->T9->T9
 | 0,D=>D
 | k+1,D=>sQ rs (ng rs k D)
theorem sA (x:Rat) (s:Int) (b:Int × List Int):∀(bs:List (Int × List Int)) (D:T9),cJ x s (bs++[b]) D=ip (cJ x s bs D) b.2 (x*cut b.1 s)
 | [],D=>rfl
 | c::bs,D=>by show cJ x s (bs++[b]) (ip D c.2 (x*cut c.1 s))=_;rw[sA x s b bs];rfl
theorem qv (rs:List (List Int)) (p:List Int × Rat):∀(T D:T9),Z0 rs (T++[p]) D=cJ p.2 p.1.sum (va rs p.1) (Z0 rs T D)
 | [],D=>rfl
 | c::T,D=>by show Z0 rs (T++[p]) (cJ c.2 c.1.sum (va rs c.1) D)=_;rw[qv rs p T];rfl
structure Vq (N B:Nat) (x:Rat):Prop where
 nn:0<=x
 le:x<=(B:Rat)
 dv:∃z:Int,x*(N:Rat)=(z:Rat)
variable {N B C:Nat}
def Vq.mono (h:Vq N B x) (l:B<=C):Vq N C x:=⟨h.nn,by
 have:((B:Nat):Rat)<=((C:Nat):Rat):=by exact_mod_cast l
 have:=h.le
 grind,h.dv⟩
def Vq.zero (N B:Nat):Vq N B 0:=⟨by grind,by exact_mod_cast A6 B,0,by grind⟩
variable {y:Rat}
def Vq.add (h:Vq N B x) (k:Vq N C y):Vq N (B+C) (x+y):=by
 obtain⟨z,a⟩:=h.dv;obtain⟨t,b⟩:=k.dv;have c:=h.nn;have d:=h.le;have k1:=k.nn;have k2:=k.le;refine⟨by grind,?_,z+t,?_⟩
 .have:((B+C:Nat):Rat)=(B:Rat)+(C:Rat):=by push_cast;rfl
  grind
 .have:((z+t:Int):Rat)=(z:Rat)+(t:Rat):=by push_cast;rfl
  grind
def Vq.mul(h:Vq N B x) (k:Vq M C y):Vq (N*M) (B*C) (x*y):=by
 obtain⟨z,a⟩:=h.dv;obtain⟨t,b⟩:=k.dv;have c:=h.nn;have d:=h.le;have k1:=k.nn;have k2:=k.le;have f:(0:Rat)<=(B:Rat):=by grind
 refine⟨RV c k1,?_,z*t,?_⟩
 .have e:((B*C:Nat):Rat)=(B:Rat)*(C:Rat):=by push_cast;rfl
  rw[e];have a1:=uy d k1;have a2:=Rat.mul_le_mul_of_nonneg_left k2 f
  grind
 .have e1:((N*M:Nat):Rat)=(N:Rat)*(M:Rat):=by push_cast;rfl
  have e2:((z*t:Int):Rat)=(z:Rat)*(t:Rat):=by push_cast;rfl
  rw[e1,e2,<- a,<- b];grind
def Vq.one (N:Nat):Vq N 1 1:=⟨by grind,by grind,N,by
 have:((N:Int):Rat)=(N:Rat):=by norm_cast
 grind⟩
def LL:Nat:=(P0 200).foldl (λa i=>Nat.lcm a (i+1)) 1
def QY {s:Nat} (d:0<s) (h:s<=200):∃q,LL=s*q:=by
 have b:(P0 201).all (λs=>s == 0 || LL % s == 0)=true:=by decide
 have a:=kF.mp b s (ZT.mpr (by lia));have c:LL % s=0:=by
  have:(s == 0)=false:=by simp;lia
  rw[this,Ab] at a;exact Zs.mp a
 exact⟨LL / s,(Nat.mul_div_cancel' (Nat.dvd_of_mod_eq_zero c)).symm⟩
def NZ:LL<=2 ^ 300:=by decide
def Kf:0<LL:=by decide
def oG {t s:Int} (hs:0<s):cut t s*(s:Rat)=(t:Rat):=by
 unfold cut;have e:(((s.toNat:Nat):Int):Rat)=(s:Rat):=by congr 1;lia
 rw[Rat.mkRat_eq_div,<- e];have h:((s.toNat:Nat):Rat)≠0:=by
  intro z;have:s.toNat=0:=by exact_mod_cast z
  lia
 have e2:(((s.toNat:Nat):Int):Rat)=((s.toNat:Nat):Rat):=by norm_cast
 rw[e2];exact Rat.div_mul_cancel h
def lN {s:Rat} (hs:0<s) (h:x*s<=y*s):x<=y:=Rat.le_of_mul_le_mul_right h hs
def Ex {s:Rat} (hs:0<s) (h:x*s=y*s):x=y:=by
 have a:=lN hs (show x*s<=y*s by grind);have b:=lN hs (show y*s<=x*s by grind)
 grind
def zE {s:Int} (hs:0<s):(0:Rat)<(s:Rat):=by exact_mod_cast hs
def JS {t s:Int} (c:0<=t) (d:t<=s) (hs:0<s) (g:s<=200):Vq LL 1 (cut t s):=by
 have a:=oG (t:=t) hs;have b:=zE hs;obtain⟨q,f⟩:=QY (s:=s.toNat) (by lia) (by lia);refine⟨lN b ?_,lN b ?_,t*q,?_⟩
 .rw[a];have:(0:Rat)<=(t:Rat):=by exact_mod_cast c
  grind
 .rw[a];have:(t:Rat)<=(s:Rat):=by exact_mod_cast d
  have e:((1:Nat):Rat)=1:=rfl;rw[e];grind
 .rw[f];have e1:((s.toNat*q:Nat):Rat)=((s.toNat:Nat):Rat)*(q:Rat):=by push_cast;rfl
  have e2:((s.toNat:Nat):Rat)=(s:Rat):=by
   have:(((s.toNat:Nat):Int):Rat)=(s:Rat):=by congr 1;lia
   rw[<- this];norm_cast
  have e3:((t*(q:Int):Int):Rat)=(t:Rat)*(q:Rat):=by push_cast;rfl
  rw[e1,e2,e3,<- a];grind
variable {n:Nat}
def Vq.bd (h:Vq N B x) (j:0<N) (d:N*B<=2 ^ n) (k:N<=2 ^ n):Bd n x:=by
 obtain⟨z,a⟩:=h.dv;have b:(0:Int)<(N:Int):=by lia
 have c:=oG (t:=z) b;have e:(((N:Nat):Int):Rat)=(N:Rat):=by norm_cast
 rw[e] at c;have f:(0:Rat)<(N:Rat):=by rw[<- e];exact zE b
 have g:x=cut z N:=Ex f (by rw[a,c]);have i:(0:Rat)<=(z:Rat):=by rw[<- a];exact RV h.nn (by grind)
 have l1:(z:Rat)<=((B*N:Nat):Rat):=by
  have e2:((B*N:Nat):Rat)=(B:Rat)*(N:Rat):=by push_cast;rfl
  rw[<- a,e2];exact uy h.le (by grind)
 have l:0<=z:=by exact_mod_cast i
 have m1:z<=((B*N:Nat):Int):=by exact_mod_cast l1
 rw[g];rw[US] at d;exact Bd.cut b (by lia) (by lia)
theorem Jo:∀{l:List Int},(∀x∈l,0<=x)->∀x∈l,x<=l.sum
 | [],_,x,h=>by simp at h
 | a::l,h,x,c=>by
  have d:=h a f7;have f:=gL λy b=>h y (g0 _ b);rw[X0];obtain e|e:=C7.mp c
  .lia
  .have:=Jo (λy b=>h y (g0 _ b)) x e;lia
variable {m:Nat}{u:List Int}
def zg (h:jW n m u) (k:Nat):u.getD k 0<=u.sum:=by
 rw[E5];cases e:u[k]? with
 | none=>have:=h.pos;show (0:Int)<=_;lia
 | some x=>exact Jo (λx a=>(h.nn x a).1) x (r0 e)
def Cu (h:jW n m u) (b:n<=4) (c:m<=50):u.sum<=200:=by
 have:=Mt.sum_le (m:=50) (l:=u) λx a=>by have:=(h.nn x a).2;lia
 rw[h.len] at this;lia
def je (N B:Nat) (D:T9):Prop:=∀p∈D,Vq N B p.2
theorem je.add {N B C:Nat}{k:List Int}{x:Rat} (b:Vq N C x):∀{D:T9},je N B D->je N (B+C) (ip D k x)
 | [],_=>λp a=>by
  unfold ip at a;rw[ZZ.mp a];exact b.mono (by lia)
 | q::D,h=>λp a=>by
  unfold ip at a;split at a
  .rcases C7.mp a with z|z
   .rw[z];exact(h q f7).add b
   .exact(h p (g0 _ z)).mono (by lia)
  .rcases C7.mp a with z|z
   .rw[z];exact(h q f7).mono (by lia)
   .exact je.add b (λr c=>h r (g0 _ c)) p z
theorem je.val {N B:Nat}{k:List Int}:∀{D:T9},je N B D->Vq N B (rP D k)
 | [],_=>Vq.zero N B
 | q::D,h=>by
  unfold rP;split
  .exact h q f7
  .exact je.val λr a=>h r (g0 _ a)
theorem je.mono {N B C:Nat}{D:T9} (h:je N B D) (l:B<=C):je N C D:=λp a=>(h p a).mono l
def jy (n m:Nat) (D:T9):Prop:=∀p∈D,jW n m p.1
def jy.add {D:T9}{k:List Int}(h:jy n m D) (a:jW n m k):jy n m (ip D k x):=λp b=>by
 obtain e|⟨q,c,e⟩:=lQ b
 .rw[e];exact a
 .rw[<- e];exact h q c
theorem jR {rs:List (List Int)}{u:List Int}:∀{bs:List Int}{i:Nat}{b:Int × List Int},b∈gK rs u i bs->0<b.1
 | [],_,_,h=>by unfold gK at h;simp at h
 | x::bs,i,b,h=>by
  unfold gK at h;split at h
  .rcases C7.mp h with e|e
   .subst e;assumption
   .exact jR e
  .exact jR h
variable {rs:List (List Int)}
def sU {b:Int × List Int} (d:jx n 5 rs) (a:jW n m u) (h:b∈va rs u):(0<b.1/\b.1<=u.sum)/\jW n (m+5) b.2:=by
 have e:=jR h;obtain⟨j,f,g,c⟩:=ou h;rw[U9] at c;have i:j<n:=by rw[<- a.len];exact f
 refine⟨⟨e,?_⟩,?_⟩
 .rw[g];exact zg a j
 .rw[c];exact a.add (d.at i)
theorem sy {n m N E:Nat}{x:Rat}{s:Int} (g:Vq N E x) (hs:0<s) (a:s<=200):∀(bs:List (Int × List Int)) {D:T9}{B:Nat},(∀b∈bs,(0<b.1/\b.1<=s)/\jW n m b.2)->jy n m D->xV D->je (N*LL) B D ->
  jy n m (cJ x s bs D)/\xV (cJ x s bs D)/\je (N*LL) (B+E*bs.length) (cJ x s bs D)/\(cJ x s bs D).length<=D.length+bs.length
 | [],D,B,_,d,e,f=>⟨d,e,f,by unfold cJ;simp⟩
 | b::bs,D,B,h,d,e,f=>by
  unfold cJ;have i:=h b f7;have j:Vq (N*LL) E (x*cut b.1 s):=(g.mul (JS (by lia) i.1.2 hs a)).mono (by lia);obtain⟨a1,a2,a3,a4⟩:=sy g hs a bs (D:=ip D b.2 (x*cut b.1 s)) (λc k=>h c (g0 _ k)) (d.add i.2) (CY e) (f.add j);refine⟨a1,a2,a3.mono ?_,?_⟩
  .rw[n5,bE];lia
  .have:=yZ b.2 (x*cut b.1 s) D;rw[n5];lia
def De (a:jW n m u):(va rs u).length<=n:=by have:=tD (rs:=rs) (u:=u) u 0;unfold va;rw[<- a.len];exact this
theorem pL {n m N E:Nat}{rs:List (List Int)} (i:jx n 5 rs) (j:n<=4) (k:m<=50):∀(T:T9) {D:T9}{B:Nat},jy n m T->je N E T->jy n (m+5) D->xV D->je (N*LL) B D ->
  jy n (m+5) (Z0 rs T D)/\xV (Z0 rs T D)/\je (N*LL) (B+E*(4*T.length)) (Z0 rs T D)/\(Z0 rs T D).length<=D.length+n*T.length
 | [],D,B,_,_,c,d,f=>⟨c,d,f,by unfold Z0;simp⟩
 | p::T,D,B,h,l,c,d,f=>by
  unfold Z0;have a:=h p f7;obtain⟨b1,b2,b3,r⟩:=sy (m:=m+5) (l p f7) a.pos (Cu a j k) (va rs p.1) (λb o=>sU i a o) c d f;obtain⟨a1,a2,a3,a4⟩:=pL i j k T (λq g=>h q (g0 _ g)) (λq g=>l q (g0 _ g)) b1 b2 b3;have e:=De (rs:=rs) a;refine⟨a1,a2,a3.mono ?_,?_⟩
  .have:E*(va rs p.1).length<=E*4:=V0 _ (by lia);rw[n5,bE 4,bE E];lia
  .rw[n5,bE,Nat.mul_one];lia
def IW {E:Nat}{T:T9} (f:jx n 5 rs) (g:n<=4) (i:m<=50) (h:jy n m T) (j:je N E T):jy n (m+5) (sQ rs T)/\xV (sQ rs T)/\je (N*LL) (E*(4*T.length)) (sQ rs T)/\(sQ rs T).length<=n*T.length:=by obtain⟨a,b,c,d⟩:=pL (D:=[]) (B:=0) f g i T h j (λp e=>by simp at e) (by unfold xV;simp) (λp e=>by simp at e);exact⟨a,b,by rw[U9] at c;exact c,by rw[aF,U9] at d;exact d⟩
theorem vI {n:Nat}{rs:List (List Int)}{u:List Int} (c:jx n 5 rs) (a:n<=4) (d:jW n 20 u):∀k:Nat,k<=6->jy n (20+5*k) (ng rs k [(u,1)])/\xV (ng rs k [(u,1)])/\je (LL ^ k) (4 ^ (k*k)) (ng rs k [(u,1)])/\(ng rs k [(u,1)]).length<=4 ^ k
 | 0,_=>⟨λp b=>by rw[ZZ.mp b];exact d,by unfold ng xV;simp,λp b=>by rw[ZZ.mp b];exact Vq.one _,by show 1<=1;lia⟩
 | k+1,f=>by
  obtain⟨a1,a2,a3,a4⟩:=vI c a d k (by lia);obtain⟨b1,b2,b3,g⟩:=IW c a (by lia) a1 a3;refine⟨?_,b2,?_,?_⟩
  .rw[show 20+5*(k+1)=20+5*k+5 by lia];exact b1
  .rw[DX LL];refine b3.mono ?_;have e:4*(ng rs k [(u,1)]).length<=4 ^ (k+1):=by rw[DX];lia
   refine j9 (V0 _ e) ?_;rw[<- X7];refine G4 (by decide) ?_;have:(k+1)*(k+1)=k*k+k+k+1:=by rw[Nat.add_mul,bE];lia
   lia
  .show (sQ rs _).length<=4 ^ (k+1);have:n*(ng rs k [(u,1)]).length<=4*4 ^ k:=N7 a a4;rw[DX];lia
def Cg (k:Nat):LL ^ k<=2 ^ (300*k):=by rw[Nat.pow_mul];exact Nat.pow_le_pow_left NZ k
def xF (k:Nat):0<LL ^ k:=Nat.pow_pos Kf
def uP (H:Hp):List Rat->List V->Prop
 | [],[]=>True
 | x::a,v::b=>pY H x v/\uP H a b
 | _,_=>False
theorem uP.mono {H H':Hp} (h:∀a xs,H a=some (.tup xs)->H' a=some (.tup xs)):∀{xs:List Rat}{vs:List V},uP H xs vs->uP H' xs vs
 | [],[],_=>trivial
 | _::_,_::_,⟨a,b⟩=>⟨a.same h,uP.mono h b⟩
 | [],_::_,c=>c.elim
 | _::_,[],c=>c.elim
theorem uP.snoc {H:Hp}{x:Rat}{v:V} (d:pY H x v):∀{xs:List Rat}{vs:List V},uP H xs vs->uP H (xs++[x]) (vs++[v])
 | [],[],_=>⟨d,trivial⟩
 | _::_,_::_,⟨a,b⟩=>⟨a,uP.snoc d b⟩
 | [],_::_,c=>c.elim
 | _::_,[],c=>c.elim
theorem uP.len {H:Hp}:∀{xs:List Rat}{vs:List V},uP H xs vs->vs.length=xs.length
 | [],[],_=>rfl
 | _::_,_::_,⟨_,b⟩=>by rw[n5,n5,uP.len b]
 | [],_::_,a=>a.elim
 | _::_,[],a=>a.elim
theorem uP.get {H:Hp}:∀{xs:List Rat}{vs:List V}{i:Nat}{v:V},uP H xs vs->vs[i]?=some v->∃x,xs[i]?=some x/\pY H x v
 | x::_,_::_,0,_,⟨a,_⟩,h=>by cases h;exact⟨x,rfl,a⟩
 | _::_,_::_,i+1,_,⟨_,b⟩,h=>uP.get (i:=i) b (by simpa using h)
 | [],[],_,_,_,h=>by simp at h
 | [],_::_,_,_,c,_=>c.elim
 | _::_,[],_,_,c,_=>c.elim
theorem wc {N B:Nat}:∀{xs:List Rat},(∀x∈xs,Vq N B x)->Vq N (B*xs.length) (jG xs)
 | [],_=>Vq.zero N _
 | x::xs,h=>by have a:=wc λy b=>h y (g0 _ b);have c:=(h x f7).add a;exact c.mono (by rw[n5,bE];lia)
def Ej (xs:List Rat) (x:Rat):jG (xs++[x])=jG xs+x:=by rw[qk];show _+(x+0)=_;grind
end Mq
namespace G
open PySem PySem.Spec PyProof.Rows L2 Mt Md Mq
structure Ct2 (mg:Str->Option b9):Prop where
 stand:∃t,mg "MOST_STAND_DRAWS"=some (.int 6 t)
structure Ue (mg:Str->Option b9):Prop where
 enumerate:mg "enumerate"=none
 sorted:mg "sorted"=none
def Sv {k:Int} (a:1<=k) (b:k<=4):Sm k:=by
 have h:k=1 ∨ k=2 ∨ k=3 ∨ k=4:=by lia
 rcases h with rfl|rfl|rfl|rfl <;> (unfold Sm;decide)
def uW(h:aO m d=true):∃ns:List Int,d=DI ns/\1<=ns.length/\ns.length<=4/\(∀x∈ns,0<=x/\x<=m)/\0<ns.sum:=by unfold aO at h;rw[A4,A4,A4] at h;obtain⟨f,⟨a,b⟩,c⟩:=h;obtain⟨ns,e,g⟩:=gq f;subst e;rw[gu] at a b;rw[we] at c;have i:=Zx a;have j:=Zx b;exact⟨ns,rfl,by lia,by lia,g,Zx c⟩
variable {n:Nat}
def iK {i:Int}(h:i.natAbs<=2 ^ n) (c:n<=100000):J6 i<=2 ^ 20:=by
 unfold J6;split
 .exact A6 _
 .rename_i b;have a:i.natAbs≠0:=λe=>b (by rw[Zs];lia);have d:i.natAbs.log2<n+1:=(gH a).mpr (P3 h (gG (by decide) (by lia)));lia
def Jf {i:Int}(a:0<i) (h:i.natAbs<=2 ^ n) (b:n<8999):i.natAbs.log2<9000:=by rw[gH (by lia)];exact P3 h (gG (by decide) (by lia))
def JD {x y:Int} (a:0<=x) (c:0<y):bh y (x % y)=bh x y:=by
 have b:(x % y).natAbs=x.natAbs % y.natAbs:=by rw[Int.natAbs_emod_of_nonneg a]
 unfold bh;rw[b,UV x.natAbs,Nat.gcd_rec y.natAbs x.natAbs,UV]
theorem jW.sum_le {n m:Nat}{ns:List Int} (h:Mt.jW n m ns) (b:n<=4):ns.sum<=(m:Int)*4:=by have:=Mt.sum_le (m:=(m:Int)) (l:=ns) λx a=>(h.nn x a).2;rw[h.len] at this;refine G8 this (Int.mul_le_mul_of_nonneg_left (by lia) (by lia))
def Be(h:aD k d=true):∃(rs:List (List Int)) (n:Nat),d=DR rs/\k=n/\Mt.jx n 5 rs:=by
 cases d with
 | tuple b =>
  have i:(decide ((b.length:Int)=k)&&b.all (λr=>X1 0 5 r&&decide ((il r:Int)=k)))=true:=h;rw[A4] at i;obtain⟨m,o⟩:=i;have f:=Zx m;have:∀(a:List E7),a.all (λr=>X1 0 5 r&&decide ((il r:Int)=k))=true->∃rs:List (List Int),a=rs.map DI/\∀r∈rs,(r.length:Int)=k/\∀x∈r,0<=x/\x<=5:=by
   intro a;induction a with
   | nil=>exact λ_=>⟨[],rfl,by simp⟩
   | cons e a p =>
    intro j;rw[kc,A4,A4] at j;obtain⟨⟨q,l⟩,c⟩:=j;obtain⟨rs,e1,e2⟩:=p c;obtain⟨ns,e3,s⟩:=gq q;subst e3;rw[gu] at l;refine⟨ns::rs,by rw[e1];rfl,λr g=>?_⟩;obtain z|z:=C7.mp g
    .subst z;exact⟨Zx l,s⟩
    .exact e2 r z
  obtain⟨rs,e1,e2⟩:=this b o;refine⟨rs,b.length,by rw[e1],f.symm,⟨by rw[e1,d8],λr c=>⟨?_,λx t=>?_⟩⟩⟩
  .have:=(e2 r c).1;lia
  .have:=(e2 r c).2 x t;lia
 | _=>cases (show false=true from h)
def Sw:Sm 6:=by unfold Sm;decide
theorem ow {c e:Type}{f:c->e} (d:∀a b,f a=f b->a=b):∀(l m:List c),l.map f=m.map f->l=m
 | [],[],_=>rfl
 | [],b::m,h=>by cases h
 | a::l,[],h=>by cases h
 | a::l,b::m,h=>by
  rw[t8,t8] at h;injection h with g i
  rw[d a b g,ow d l m i]
def Rb(h:DR rs=DR c):rs=c:=by
 injection h with h
 refine ow (λa b e=>?_) _ _ h;injection e with e
 exact ow (λx y z=>by injection z) _ _ e
mutual
theorem Kg {l T:Addr}{H:Hp}{ps:List (List O0 × V)} (hT:H T=some (.dT ps)):∀{d:E7}{v:V},Dt l H d v->Dt T H d v
 | .none,_,h=>by unfold Dt at h ⊢;exact h
 | .bool _,_,h=>by unfold Dt at h ⊢;exact h
 | .int _,_,h=>by unfold Dt at h ⊢;exact h
 | .str _,_,h=>by unfold Dt at h ⊢;exact h
 | .tuple c,_,h=>by
  unfold Dt at h ⊢;obtain⟨a,b,e,n,q,r⟩:=h;exact⟨a,b,e,(λz=>by rw[z,hT] at q;cases q),q,xG hT r⟩
 | .list c,_,h=>by
  unfold Dt at h ⊢;obtain⟨a,b,e,n,q,r⟩:=h;exact⟨a,b,e,(λz=>by rw[z,hT] at q;cases q),q,xG hT r⟩
 | .dict f,_,h=>by unfold Dt at h ⊢;obtain⟨z,a,e,n,q⟩:=h;exact⟨z,a,e,(λz=>by rw[z,hT] at q;cases q),q⟩
theorem xG {l T:Addr}{H:Hp}{ps:List (List O0 × V)} (hT:H T=some (.dT ps)):∀{ds:List E7}{xs:List V},Z5 l H ds xs->Z5 T H ds xs
 | [],_,h=>by unfold Z5 at h ⊢;exact h
 | d::ds,_,h=>by unfold Z5 at h ⊢;obtain⟨x,r,e,a,b⟩:=h;exact⟨x,r,e,Kg hT a,xG hT b⟩
end
def eh (H:Hp):List (Int × List Int)->List V->Prop
 | [],a=>a=[]
 | b::bs,a=>∃q w r,a=.ref q::r/\H q=some (.tup [.int b.1,.ref w])/\H w=some (.tup (b.2.map V.int))/\eh H bs r
theorem eh.mono {H H':Hp} (h:∀a b,H a=some (.tup b)->H' a=some (.tup b)):∀{bs:List (Int × List Int)}{ts:List V},eh H bs ts->eh H' bs ts
 | [],_,p=>p
 | _::_,_,⟨q,w,r,e,c,d,f⟩=>⟨q,w,r,e,h _ _ c,h _ _ d,eh.mono h f⟩
theorem eh.snoc {H:Hp}{b:Int × List Int}{q w:Addr} (a:H q=some (.tup [.int b.1,.ref w])) (c:H w=some (.tup (b.2.map V.int))):∀{bs:List (Int × List Int)}{ts:List V},eh H bs ts->eh H (bs++[b]) (ts++[.ref q])
 | [],_,p=>by
  rw[show _=[] from p];exact⟨q,w,[],rfl,a,c,rfl⟩
 | _::_,_,⟨d,f,r,e,a1,a2,a3⟩=>⟨d,f,r++[.ref q],by rw[e];rfl,a1,a2,eh.snoc a c a3⟩
theorem eh.len {H:Hp}:∀{bs:List (Int × List Int)}{ts:List V},eh H bs ts->ts.length=bs.length
 | [],_,p=>by rw[show _=[] from p];rfl
 | _::_,_,⟨q,w,r,e,_,_,a⟩=>by rw[e,n5,n5,eh.len a]
theorem eh.get {H:Hp}:∀{bs:List (Int × List Int)}{ts:List V}{i:Nat}{t:V},eh H bs ts->ts[i]?=some t->∃b q w,bs[i]?=some b/\t=.ref q/\H q=some (.tup [.int b.1,.ref w])/\H w=some (.tup (b.2.map V.int))
 | [],_,_,_,p,h=>by rw[show _=[] from p] at h;simp at h
 | b::_,_,0,_,⟨q,w,r,e,a,c,_⟩,h=>by
  rw[e] at h;cases h;exact⟨b,q,w,rfl,rfl,a,c⟩
 | _::_,_,i+1,_,⟨q,w,r,e,_,_,d⟩,h=>by rw[e] at h;obtain⟨b,f,g,e1,e2,e3,e4⟩:=eh.get (i:=i) d (by simpa using h);exact⟨b,f,g,by simpa using e1,e2,e3,e4⟩
theorem uZ (rs:List (List Int)) (u:List Int) (b:Int):∀(bs:List Int) (i:Nat),gK rs u i (bs++[b])=gK rs u i bs++(if 0<b then [(b,fB u (rs.getD (i+bs.length) []))] else [])
 | [],i=>by
  show gK rs u i [b]=[]++_;rw[oZ];split <;> rfl
 | x::bs,i=>by
  show gK rs u i (x::(bs++[b]))=_;rw[oZ,oZ,uZ rs u b bs (i+1),n5,show i+1+bs.length=i+(bs.length+1) by lia];by_cases h:0<x
  .rw[ZB h,ZB h];rfl
  .rw[ZC h,ZC h]
def Sx:Sm 0:=by unfold Sm;decide
def Eo (h:n<=10000):n<j6:=by rw[R7];lia
section
variable {P:j0}{w:w5}{K:m9}{mg:Str->Option b9}{base:Heap}{f:Addr}{fd:C5}{ec:Nat->Addr}{Bs:Addr}
def iy (ec:Nat->Addr):Sp:=λb H Q E=>∃(v:V) (st:Addr) (d:E7),b=[v]/\Dt st H d v/\js d/\(aO 20 d=true->∀a,u7 H a->Q .non a)/\(aO 20 d=false->∀a,u7 H a->E (.ref (ec 0)) none a)
abbrev mK:Stmt:=top 29
def yB:C6 ["thing"] ["thing"] (A0 mK):=aS
def yP (F:aU K "need_urn" "need_urn" mK f fd) (R:oJ K mg ec Bs) (c1:Y1 P w K mg base 4 "is_urn" ["thing"] jo):K6 P w K mg base (fO P w) 5 f fd ["thing"] (iy ec):=by
 refine F.okX yB (λg H Q E h=>?_) (λi A a s H g Q E j h=>?_)
 .obtain⟨v,st,d,rfl,_⟩:=h;rfl
 obtain⟨v,st,d,rfl,k,l,o,p⟩:=h;refine⟨_,u6 (R3 (eP (eO (D9 c1 j rfl (b8 (pv 0) i3)))) (u6 (aL R.e0 (R.xc 0 (by decide)) n9 (λr H Q t m q=>m _ _ q))) G0),?_⟩;refine⟨_,rfl,v,st,d,rfl,k,l,λb c=>⟨_,rfl,?_⟩⟩;cases e:aO 20 d with
 | true=>exact Z8 (o e b c)
 | false=>exact aA (p e b c)
def jJ (ec:Nat->Addr):Sp:=λb H Q E=>∃(v:V) (st:Addr) (d:E7) (k:Int),b=[.int k,v]/\1<=k/\k<=4/\Dt st H d v/\FR d/\(aD k d=true->∀a,u7 H a->Q .non a)/\(aD k d=false->∀a,u7 H a->E (.ref (ec 1)) none a)
abbrev kO:Stmt:=top 30
def wB:C6 ["kinds","thing"] ["kinds","thing"] (A0 kO):=aS
def xa (F:aU K "need_rule" "need_rule" kO f fd) (R:oJ K mg ec Bs) (c1:Z9 P w K mg base 3 "is_rule" ["kinds","thing"] (jK ec)):K6 P w K mg base (fO P w) 4 f fd ["kinds","thing"] (jJ ec):=by
 refine F.okX wB (λj H Q E h=>?_) (λl A c s H j Q E o h=>?_)
 .obtain⟨v,st,d,k,rfl,_⟩:=h;rfl
 obtain⟨v,st,d,k,rfl,k1,k4,p,ok,r,t⟩:=h;refine⟨_,u6 (R3 (eP (eO (Q9 c1 o rfl U7 (b8 (pv 0) (b8 (pv 1) i3))))) (u6 (aL R.e1 (R.xc 1 (by decide)) (wV (pI (wQ (pv 0) (pI Bj)))) (λy H Q B m q=>?_))) G0),?_⟩
 .obtain⟨u,z1,x,z2,z3,z4,z5⟩:=q;exact⟨u,z1,x,z2,z3,z4,λz=>m _ _ (z5 z)⟩
 refine⟨_,rfl,_,rfl,.int k,v,st,.int k,d,rfl,Dt.int _ _ _,(λb=>?_),λC e _ _=>?_⟩
 .have a:(decide ((1:Int)<=k)&&decide (k<=4))=false:=b;rw[ZA k1,ZA k4] at a;cases a
 cases e;refine⟨p,ok.1,ok.2,λg i=>⟨_,rfl,?_⟩⟩;cases b:aD k d with
 | true=>exact Z8 (r b g i)
 | false=>exact aA ⟨_,rfl,k,rfl,(Sv k1 k4).1,(Sv k1 k4).2,λz=>t b g i⟩
def AF (ec:Nat->Addr):Sp:=λb H Q E=>∃(u v:V) (st:Addr) (d e:E7),b=[u,v]/\Dt st H d u/\js d/\Dt st H e v/\FR e/\(aO 20 d=false->∀a,u7 H a->E (.ref (ec 0)) none a) /\
 (aO 20 d=true->aD (il d) e=false->∀a,u7 H a->E (.ref (ec 1)) none a)/\(aO 20 d=true->aD (il d) e=true->∀a,u7 H a->Q .non a)
abbrev Hr:Stmt:=top 31
def OU:C6 ["urn","rule"] ["urn","rule"] (A0 Hr):=aS
def PZ (F:aU K "need_urn_and_rule" "need_urn_and_rule" Hr f fd) (B:Bt mg) (c1:Z9 P w K mg base 5 "need_urn" ["thing"] (iy ec)) (c2:Z9 P w K mg base 4 "need_rule" ["kinds","thing"] (jJ ec)):K6 P w K mg base (fO P w) 6 f fd ["urn","rule"] (AF ec):=by
 refine F.okX OU (λt H Q E h=>?_) (λx A j s H t Q E q h=>?_)
 .obtain⟨u,v,st,d,e,rfl,_⟩:=h;rfl
 obtain⟨u,v,st,d,e,rfl,r,k,y,l,z,C,D⟩:=h;refine⟨_,m8 (aw (Q9 c1 q rfl U7 (b8 (pv 0) i3))) (u6 (aw (Q9 (c2.up (by decide)) q rfl U7 (b8 (D4 R1 rfl B.len J8 (b8 (pv 0) i3)) (b8 (pv 1) i3))))),?_⟩;refine⟨_,rfl,u,st,d,rfl,r,k,λm J i=>?_,z⟩;obtain⟨ns,e1,l1,l4,_⟩:=uW m;subst e1;obtain⟨a,e2,_,I⟩:=r.di;subst e2;have c:=C m;have g:=D m;rw[gu] at c g;refine⟨_,rfl,a,_,rfl,.inr (.of (i _ _ I)),_,rfl,v,st,e,(ns.length:Int),?_,by lia,by lia,y.kp (i.kp st),l,λb o p=>g b o (i.trans p),λb o p=>c b o (i.trans p)⟩;rw[d8]
def GJ:Sp:=λa H Q _=>∃x y:Int,a=[.int x,.int y]/\0<=x/\0<=y/\Q (.int (bh x y:Nat)) H
abbrev Pn:Stmt:=top 17
def NH:C6 ["one","other"] ["one","other"] (A0 Pn):=aS
def Tf (F:aU K "greatest_divisor" "greatest_divisor" Pn f fd) (B:Bt mg):K6 P w K mg base ee 1 f fd ["one","other"] GJ:=by
 refine F.ok NH (λr H Q E h=>?_) (λt A i s H r Q E N h=>?_)
 .obtain⟨x,y,rfl,_⟩:=h;rfl
 obtain⟨x,y,rfl,u,v,q⟩:=h;refine⟨_,m8 (HY M4 (J1 iB (pv 1) A7 (N2 _)) (u6 (Bi (i:=0) (j:=1) rfl NH.nd rfl rfl (by decide) rfl rfl (b8 (pv 1) (b8 (y8 mR (pv 0) (pv 1)) i3)) rfl)))
  (u6 (C8 (D4 JW rfl B.abs boot_abs (b8 (pv 0) i3)))),?_⟩
 refine⟨λm o j=>j=H/\∃d c:Int,0<=d/\0<=c/\o=[some (.int d),some (.int c)]/\m=c.toNat/\bh d c=bh x y,⟨_,rfl,x,y,u,v,rfl,rfl,rfl⟩,?_⟩;rintro m o j ⟨rfl,d,c,C,D,rfl,rfl,e⟩;refine⟨_,rfl,rfl,_,rfl,?_⟩;by_cases k:c=0
 .subst k;rw[ZA rfl];refine Z8 ⟨_,rfl,d,rfl,?_⟩;have e2:(if d<0 then -d else d)=((bh x y:Nat):Int):=by rw[<- e,Int.gcd_zero_right];split <;> lia
  rw[e2];exact q
 .rw[Zz (show ¬ V.int c=V.int 0 from λz=>k (by injection z))];refine aA ⟨λg p=>p=j/\∃a b:Int,0<=a/\0<=b/\g=[some (.int a),some (.int b)]/\b.toNat<c.toNat/\bh a b=bh x y,?_,?_⟩
  .rintro g p ⟨rfl,a,b,I,J,rfl,l,e2⟩;exact⟨_,l,rfl,a,b,I,J,rfl,rfl,e2⟩
  .have L:=ik d (show c≠0 from k);have M:=dZ d (show 0<c by lia);refine⟨_,rfl,_,rfl,_,rfl,_,_,rfl,rfl,(by lia),_,_,rfl,?_⟩;exact⟨rfl,c,d % c,D,L,rfl,by lia,by rw[JD C (by lia)];exact e⟩
def cX:Sp:=λc H Q _=>∃t b:Int,c=[.int t,.int b]/\0<=t/\0<b/\b.natAbs.log2<9000/\∀p a,u7 H a->a p=some (.tup ((fr (cut t b)).map V.int))->Q (.ref p) a
abbrev mO:Stmt:=top 18
def qp:C6 ["top","bottom","divisor"] ["top","bottom"] (A0 mO):=aS
def MH {t b:Int} (a:0<b) (h:b.natAbs.log2<9000):0<((bh t b:Nat):Int)/\((bh t b:Nat):Int).natAbs.log2<9000:=by have c:0<bh t b:=Int.gcd_pos_of_ne_zero_right _ (by lia);refine⟨by lia,?_⟩;rw[dY];have l:bh t b<=b.natAbs:=Nat.le_of_dvd (by lia) (Nat.gcd_dvd_right _ _);rw[gH (by lia)] at h ⊢;lia
def yR (F:aU K "fraction" "fraction" mO f fd) (c1:Y1 P w K mg base 1 "greatest_divisor" ["one","other"] GJ):K6 P w K mg base ee 2 f fd ["top","bottom"] cX:=by
 refine F.ok qp (λe H Q E h=>?_) (λi A c s H e Q E j h=>?_)
 .obtain⟨x,y,rfl,_⟩:=h;rfl
 obtain⟨t,b,rfl,k,d,a,q⟩:=h;refine⟨_,m8 (F7 (i:=2) qp.nd rfl (B6 rfl) (D9 c1 j rfl (b8 (pv 0) (b8 (pv 1) i3))))
  (u6 (C8 (mQ (b8 (y8 yO (pv 0) (pv 2)) (b8 (y8 yO (pv 1) (pv 2)) i3))))),?_⟩
 have g:=MH (t:=t) d a;refine⟨_,rfl,_,rfl,t,b,rfl,k,by lia,?_⟩;refine⟨_,rfl,_,rfl,_,_,rfl,rfl,g,_,rfl,_,rfl,_,_,rfl,rfl,g,(by show 2<=j6;decide),λp l=>?_⟩;refine q p _ (u7.new l) ?_;rw[j3,QG d];rfl
def nZ:Sp:=λb H Q _=>∃(p q:Addr) (x y:Rat) (n m:Nat),b=[.ref p,.ref q]/\H p=some (.tup ((fr x).map V.int))/\H q=some (.tup ((fr y).map V.int))/\0<=x.num/\0<=y.num/\Bd n x/\Bd m y/\n+m<=8000 /\
 ∀r a,u7 H a->a r=some (.tup ((fr (x*y)).map V.int))->Q (.ref r) a
abbrev wG:Stmt:=top 20
def GM:C6 ["one","other"] ["one","other"] (A0 wG):=aS
def IE (F:aU K "times" "times" wG f fd) (c1:Y1 P w K mg base 2 "fraction" ["top","bottom"] cX):K6 P w K mg base ee 3 f fd ["one","other"] nZ:=by
 refine F.ok GM (λj H Q E h=>?_) (λl A d s H j Q E o h=>?_)
 .obtain⟨p,q,x,y,n,m,rfl,_⟩:=h;rfl
 obtain⟨p,q,x,y,n,m,rfl,r,t,u,v,e,a,z,k⟩:=h;refine⟨_,u6 (C8 (D9 c1 o rfl (b8 (y8 om (R5 bW (pv 0) A7 (λ_ _=>rfl)) (R5 bW (pv 1) A7 (λ_ _=>rfl))) (b8 (y8 om (R5 bW (pv 0) A7 (λ_ _=>rfl)) (R5 bW (pv 1) A7 (λ_ _=>rfl))) i3)))),?_⟩;have b:H p=some (.tup [.int x.num,.int x.den]):=r;have c:H q=some (.tup [.int y.num,.int y.den]):=t;have b1:J6 x.num<=2 ^ 20:=iK e.num (by lia);have b2:J6 y.num<=2 ^ 20:=iK a.num (by lia);have b3:J6 (x.den:Int)<=2 ^ 20:=iK (by rw[dY];exact e.den) (by lia);have B:J6 (y.den:Int)<=2 ^ 20:=iK (by rw[dY];exact a.den) (by lia);refine⟨_,rfl,p,_,_,_,rfl,rfl,.of b,M7 (j:=0) rfl,_,rfl,q,_,_,_,rfl,rfl,.of c,M7 (j:=0) rfl,_,_,rfl,rfl,⟨b1,b2⟩,
  _,rfl,p,_,_,_,rfl,rfl,.of b,M7 (j:=1) rfl,_,rfl,q,_,_,_,rfl,rfl,.of c,M7 (j:=1) rfl,_,_,rfl,rfl,⟨b3,B⟩,_,_,rfl,yd u v,?_,?_,?_⟩
 .have g:=x.den_nz;have i:=y.den_nz;have:=nU (dU g) (dU i);rw[<- mq];lia
 .rw[gH (by have g:=x.den_nz;have i:=y.den_nz;rw[nV];exact mn (by lia) (by lia)),nV];refine P3 (N7 e.den a.den) ?_;rw[<- X7];exact gG (by decide) (by lia)
 .rw[MS];exact k
def rl:Sp:=λb H Q _=>∃(p q:Addr) (x y:Rat) (n m:Nat),b=[.ref p,.ref q]/\H p=some (.tup ((fr x).map V.int))/\H q=some (.tup ((fr y).map V.int))/\0<=x.num/\0<=y.num/\Bd n x/\Bd m y/\n+m<=8000 /\
 ∀r a,u7 H a->a r=some (.tup ((fr (x+y)).map V.int))->Q (.ref r) a
abbrev AZ:Stmt:=top 19
def Ly:C6 ["one","other"] ["one","other"] (A0 AZ):=aS
def Ma (F:aU K "plus" "plus" AZ f fd) (c1:Y1 P w K mg base 2 "fraction" ["top","bottom"] cX):K6 P w K mg base ee 3 f fd ["one","other"] rl:=by
 refine F.ok Ly (λl H Q E h=>?_) (λo A d s H l Q E r h=>?_)
 .obtain⟨p,q,x,y,n,m,rfl,_⟩:=h;rfl
 obtain⟨p,q,x,y,n,m,rfl,t,u,v,z,e,a,B,k⟩:=h;refine⟨_,u6 (C8 (D9 c1 r rfl (b8 (y8 dI (y8 om (R5 bW (pv 0) A7 (λ_ _=>rfl)) (R5 bW (pv 1) A7 (λ_ _=>rfl))) (y8 om (R5 bW (pv 1) A7 (λ_ _=>rfl)) (R5 bW (pv 0) A7 (λ_ _=>rfl)))) (b8 (y8 om (R5 bW (pv 0) A7 (λ_ _=>rfl)) (R5 bW (pv 1) A7 (λ_ _=>rfl))) i3)))),?_⟩;have b:H p=some (.tup [.int x.num,.int x.den]):=t;have c:H q=some (.tup [.int y.num,.int y.den]):=u;have b1:J6 x.num<=2 ^ 20:=iK e.num (by lia);have b2:J6 y.num<=2 ^ 20:=iK a.num (by lia);have b3:J6 (x.den:Int)<=2 ^ 20:=iK (by rw[dY];exact e.den) (by lia);have g:J6 (y.den:Int)<=2 ^ 20:=iK (by rw[dY];exact a.den) (by lia);refine⟨_,rfl,p,_,_,_,rfl,rfl,.of b,M7 (j:=0) rfl,_,rfl,q,_,_,_,rfl,rfl,.of c,M7 (j:=1) rfl,_,_,rfl,rfl,⟨b1,g⟩,
  _,rfl,q,_,_,_,rfl,rfl,.of c,M7 (j:=0) rfl,_,rfl,p,_,_,_,rfl,rfl,.of b,M7 (j:=1) rfl,_,_,rfl,rfl,⟨b2,b3⟩,_,_,rfl,rfl,
  _,rfl,p,_,_,_,rfl,rfl,.of b,M7 (j:=1) rfl,_,rfl,q,_,_,_,rfl,rfl,.of c,M7 (j:=1) rfl,_,_,rfl,rfl,⟨b3,g⟩,_,_,rfl,?_,?_,?_,?_⟩
 .exact Int.add_nonneg (yd v (by lia)) (yd z (by lia))
 .have i:=x.den_nz;have j:=y.den_nz;have:=nU (dU i) (dU j);rw[<- mq];lia
 .rw[gH (by have i:=x.den_nz;have j:=y.den_nz;rw[nV];exact mn (by lia) (by lia)),nV];refine P3 (N7 e.den a.den) ?_;rw[<- X7];exact gG (by decide) (by lia)
 .rw[MT];exact k
def rW:Sp:=λe H Q _=>∃(a:Addr) (d:List V) (b:List Rat) (N B n:Nat),e=[.ref a]/\H a=some (.lst d)/\uP H b d/\(∀x∈b,Vq N B x)/\0<N/\N*(B*b.length+B)<=2 ^ n/\N<=2 ^ n/\n<=4000 /\
 ∀r c,u7 H c->c r=some (.tup ((fr (jG b)).map V.int))->Q (.ref r) c
abbrev wF:Stmt:=top 21
def og:C6 ["fractions","so_far","part"] ["fractions"] (A0 wF):=aS
def IC (F:aU K "total" "total" wF f fd) (c1:Y1 P w K mg base 3 "plus" ["one","other"] rl):K6 P w K mg base ee 4 f fd ["fractions"] rW:=by
 refine F.ok og (λS H Q E h=>?_) (λT A k s H S Q E U h=>?_)
 .obtain⟨a,l,d,N,B,n,rfl,_⟩:=h;rfl
 obtain⟨a,l,d,N,B,n,rfl,v,z,C,D,I,J,hn,q⟩:=h;refine⟨_,m8 (F7 (i:=1) og.nd rfl (B6 rfl) (mQ (b8 A7 (b8 A7 i3))))
  (m8 (eQ M4 rfl (cQ (pv 0)) (U6 (i:=2) og.nd rfl (B6 rfl))
   (u6 (F7 (i:=1) og.nd rfl (B6 rfl) (D9 c1 U rfl (b8 (pv 1) (b8 (pv 2) i3))))))
  (u6 (C8 (pv 1)))),?_⟩
 refine⟨(by show 2<=j6;decide),λc X=>?_⟩;have L:u7 H (C3 H c (.tup [.int 0,.int 1])):=u7.new X;refine⟨_,rfl,a,rfl,⟨_,.of (L _ _ v)⟩,?_⟩;refine gY (K:=K) (a:=a) (xs:=l) (λi g e=>u7 H e/\i<=l.length/\∃c o,g=[some (.ref a),some (.ref c),o]/\e c=some (.tup ((fr (jG (d.take i))).map V.int)))
  ⟨L,A6 _,c,none,rfl,j3⟩ (λi g e _ h=>.of (h.1 _ _ v)) (λi t g e M h=>?_) (λg e h=>?_)
 .obtain⟨j,hi,c,o,rfl,b⟩:=h;obtain⟨x,m,Y,rfl,p⟩:=z.get M;have Z:=(ZW.mp m).1;have O:Vq N B x:=C x (r0 m);have R:Vq N (B*d.length) (jG (d.take i)):=(wc λy hy=>C y (D6 hy)).mono (V0 _ (by rw[B0];lia));have d1:Bd n x:=O.bd D (j9 (V0 _ (Ro _ _)) I) J;have d2:Bd n (jG (d.take i)):=R.bd D (j9 (V0 _ (kJ _ _)) I) J;refine⟨_,rfl,_,rfl,c,Y,jG (d.take i),x,n,n,rfl,b,j _ _ p,Rat.num_nonneg.mpr R.nn,Rat.num_nonneg.mpr O.nn,d2,d1,by lia,λr H3 g3 u=>⟨j.trans g3,(ZW.mp M).1,r,_,rfl,?_⟩⟩;rw[D8,m];show _=some (HO.tup ((fr (jG (d.take i++[x]))).map V.int));rw[Ej];exact u
 .obtain⟨j,_,c,o,rfl,b⟩:=h;rw[z.len,M6] at b;exact⟨_,rfl,q c e j b⟩
def yt:Sp:=λc H Q _=>∃(a:Addr) (n m:Nat) (ns:List Int) (k:Nat),c=[.ref a,.int k]/\H a=some (.tup (ns.map V.int))/\Mt.jW n m ns/\n<=4/\m<=1000/\k<n/\∀p b,u7 H b->b p=some (.tup ((fr (Mt.Sz ns k)).map V.int))->Q (.ref p) b
abbrev wI:Stmt:=top 33
def GN:C6 ["urn","kind"] ["urn","kind"] (A0 wI):=aS
def IH (F:aU K "share" "share" wI f fd) (B:Bt mg) (c1:Y1 P w K mg base 2 "fraction" ["top","bottom"] cX):K6 P w K mg base ee 3 f fd ["urn","kind"] yt:=by
 refine F.ok GN (λg H Q E h=>?_) (λi A c s H g Q E j h=>?_)
 .obtain⟨a,n,m,ns,k,rfl,_⟩:=h;rfl
 obtain⟨a,n,m,ns,k,rfl,d,b,l,p,o,q⟩:=h;refine⟨_,u6 (C8 (D9 c1 j rfl (b8 (R5 bW (pv 0) (pv 1) (λ_ _=>rfl)) (b8 (D4 (dP rfl) rfl B.sum DQ (b8 (pv 0) i3)) i3)))),?_⟩;have r:=jW.sum_le b l;have e:=b.pos;refine⟨_,rfl,_,rfl,a,_,_,_,rfl,rfl,.of d,xy (by rw[b.len];exact o),_,rfl,a,ns,rfl,.inr (.of d),_,_,rfl,(b.getD k).1,e,Jf (n:=12) e (by show _<=4096;lia) (by lia),q⟩
def pq:Sp:=λd H Q _=>∃(a st:Addr) (v:V) (n j:Nat) (ns:List Int) (b:List (List Int)) (k:Nat),d=[.ref a,v,.int k]/\H a=some (.tup (ns.map V.int))/\ns.length=n/\Dt st H (DR b) v/\Mt.jx n j b/\n<=4/\k<n /\
 ∀p c,u7 H c->c p=some (.tup ((fB ns (b.getD k [])).map V.int))->Q (.ref p) c
abbrev so:Stmt:=top 34
def Er:C6 ["urn","rule","kind"] ["urn","rule","kind"] (A0 so):=aS
def EC (F:aU K "put_in" "put_in" so f fd) (B:Bt mg):K6 P w K mg base ee 1 f fd ["urn","rule","kind"] pq:=by
 refine F.ok Er (λX H Q E h=>?_) (λY A C s H X Q E hr h=>?_)
 .obtain⟨a,st,v,n,j,ns,L,k,rfl,_⟩:=h;rfl
 obtain⟨a,st,v,n,j,ns,L,k,rfl,M,N,Z,d,h4,O,q⟩:=h;refine⟨_,u6 (C8 (G9 Q3 rfl B.tuple Z6 (b8 (Q2 (N:=["balls","more"]) (ix:=[none,none]) (ifs:=[]) (tc:=ag) rfl
   (PF rfl B.zip (b8 (pv 0) (b8 (R5 bW (pv 1) (pv 2) (λ_ _=>rfl)) i3)))
   (λs H R=>LO (K:=K) (n:=2) rfl rfl (X8 (dq (i:=0) (by decide) rfl (B6 rfl) (.inr rfl)) (X8 (dq (i:=1) (by decide) rfl (B6 rfl) (.inr rfl)) iA))) (λs H R=>P5)
   (λs H R=>y8 dI (pv 0) (pv 1)) rfl (by decide) (by rfl) (by rfl) (λ_=>rfl)) i3))),?_⟩
 obtain⟨r,xs,b,e,D,g,S⟩:=QK Z (by rw[d.len];exact O);subst e;have m:=d.at O;generalize a0:L.getD k []=c at *;refine⟨_,rfl,_,rfl,_,rfl,r,_,_,_,rfl,rfl,.of D,M7 g,a,b,_,_,rfl,.of M,.of S,?_⟩;have l1:ns.length=c.length:=by rw[N,m.len]
 refine MW (K:=K) (a:=a) (b:=b) (xs:=ns.map V.int) (ys:=c.map V.int) (sz (by rw[d8];lia)) (by rw[d8,d8];exact l1)
  (λi o t=>u7 H t/\i<=n/\o=((fB ns c).take i).map V.int) ⟨u7.refl H,A6 _,rfl⟩ (λi o t h=>?_) (λi o t _ h=>⟨.of (h.1 _ _ M),.of (h.1 _ _ S)⟩) ⟨rfl,rfl⟩ (λi o t x y p g T I h=>?_) (λo t h=>?_)
 .obtain⟨_,u,rfl⟩:=h;have:(fB ns c).length=n:=by unfold fB;rw[oP,<- l1,N];lia
  rw[d8,B0,this];lia
 .obtain⟨J,u,rfl⟩:=h;have U:i<ns.length:=by have:=(ZW.mp g).1;rwa [d8] at this
  have z:i<c.length:=by lia
  rw[w6,j4 U] at g;rw[w6,j4 z] at T;cases g;cases T;refine⟨_,rfl,_,rfl,_,_,rfl,rfl,J.trans (u7.new I),by lia,?_⟩;have e:(fB ns c)[i]?=some (ns[i]+c[i]):=by unfold fB;rw[DZ,j4 U,j4 z]
  rw[D8,e,v9];rfl
 .obtain⟨J,u,rfl⟩:=h;intro p I;refine⟨p,_,rfl,.inl ⟨.of j3,λl hl=>?_⟩⟩;refine q l _ ((J.trans (u7.new I)).trans (u7.new hl)) ?_;rw[j3,d8];have:(fB ns c).length=ns.length:=by unfold fB;rw[oP,<- l1];lia
  rw[<- this,M6]
def mI:Sp:=λd H Q _=>∃(a:Addr) (c:List V),d=[.ref a]/\H a=some (.tup c)/\∀p b,u7 H b->b p=some (.tup c)->Q (.ref p) b
abbrev pC:Stmt:=top 35
def AR:C6 ["urn"] ["urn"] (A0 pC):=aS
def Bp (F:aU K "own_urn" "own_urn" pC f fd) (B:Bt mg):K6 P w K mg base ee 1 f fd ["urn"] mI:=by
 refine F.ok AR (λc H Q E h=>?_) (λd A b s H c Q E k h=>?_)
 .obtain⟨a,e,rfl,_⟩:=h;rfl
 obtain⟨a,e,rfl,g,q⟩:=h;refine⟨_,u6 (C8 (G9 Q3 rfl B.tuple Z6 (b8 (G9 xv rfl B.list boot_list (b8 (pv 0) i3)) i3))),?_⟩;refine⟨_,rfl,a,_,rfl,.inr (.of g),λl i=>⟨l,_,rfl,.inl ⟨.of j3,λp j=>?_⟩⟩⟩;exact q p _ ((u7.new i).trans (u7.new j)) j3
def AC:Sp:=λe H Q _=>∃(a st:Addr) (v:V) (n:Nat) (ns:List Int) (c:List (List Int)),e=[.ref a,v]/\H a=some (.tup (ns.map V.int))/\ns.length=n/\Dt st H (DR c) v/\Mt.jx n 5 c/\n<=4 /\
 ∀p b d,u7 H b->b p=some (.lst d)->eh b (va c ns) d->Q (.ref p) b
abbrev GX:Stmt:=top 40
def OS:C6 ["urn","rule"] ["urn","rule"] (A0 GX):=aS
def PQ (F:aU K "urns_behind_one" "urns_behind_one" GX f fd) (L:Ue mg) (c1:Y1 P w K mg base 1 "put_in" ["urn","rule","kind"] pq):K6 P w K mg base ee 2 f fd ["urn","rule"] AC:=by
 refine F.ok OS (λM H Q E h=>?_) (λN A t s H M Q E O h=>?_)
 .obtain⟨a,st,v,n,ns,c,rfl,_⟩:=h;rfl
 obtain⟨a,st,v,n,ns,c,rfl,u,R,S,T,U,q⟩:=h;refine⟨_,u6 (C8 (Q2 (N:=["kind","balls","urn","rule"]) (ix:=[none,none,some 0,some 1]) rfl
   (Ih rfl L.enumerate (b8 (pv 0) i3))
   (λs H B=>LO (K:=K) (n:=2) rfl rfl (X8 (dq (i:=0) (by decide) rfl (B6 rfl) (.inr rfl)) (X8 (dq (i:=1) (by decide) rfl (B6 rfl) (.inr rfl)) iA)))
   (λs H B=>sF (J1 IA (pv 1) A7 (N2 _)))
   (λs H B=>mQ (b8 (pv 1) (b8 (D9 c1 O rfl (b8 (pv 2) (b8 (pv 3) (b8 (pv 0) i3)))) i3))) rfl (by decide) (by rfl) (by rfl) (λ_=>rfl))),?_⟩
 refine⟨_,rfl,a,_,rfl,.of u,?_⟩;refine JY (K:=K) (a:=a) (xs:=ns.map V.int) (sz (by rw[d8];lia)) (λi k g=>u7 H g/\i<=n/\eh g (gK c ns 0 (ns.take i)) k) ⟨u7.refl H,A6 _,rfl⟩ (λi k g h=>?_) (λi k g _ h=>.of (h.1 _ _ u)) ⟨rfl,rfl⟩ (λi k g x p C m h=>?_) (λk g h=>?_)
 .obtain⟨_,_,l⟩:=h;rw[l.len];have:=tD (rs:=c) (u:=ns) (ns.take i) 0;rw[B0] at this;lia
 .obtain⟨y,Z,l⟩:=h;rw[w6] at C;obtain⟨b,D,eb⟩:=Zt.mp C;subst eb;have X:=(ZW.mp D).1;have o:=y.trans (u7.new m (o:=.tup [.int i,.int b]));have z:=l.mono (λa I e=>u7.new (o:=.tup [.int i,.int b]) m _ _ e);generalize C3 g p (.tup [.int i,.int b])=H3 at o z;have r:gK c ns 0 (ns.take (i+1))=gK c ns 0 (ns.take i)++(if 0<b then [(b,fB ns (c.getD i []))] else []):=by rw[D8,D];show gK c ns 0 (ns.take i++[b])=_;rw[uZ,B0,U9,ig (by lia)]
  refine⟨_,rfl,_,_,rfl,rfl,_,rfl,?_⟩;by_cases d:0<b
  .rw[ZB d] at r;rw[ZA (show b > 0 from d),ZB rfl];refine⟨_,rfl,_,rfl,_,rfl,_,rfl,a,st,v,n,5,ns,c,i,rfl,o _ _ u,R,S.kp (o.kp st),T,U,by lia,λw H4 J Y=>⟨(by show 2<=j6;decide),λq' j=>⟨(o.trans J).trans (u7.new j),by lia,?_⟩⟩⟩;rw[r];refine eh.snoc (b:=(b,fB ns (c.getD i []))) (w:=w) j3 ?_ (z.mono λa I e=>(J.trans (u7.new j)) _ _ e);exact u7.new j _ _ Y
  .rw[ZC d,P4] at r;rw[Zz (show ¬ b > 0 from d),ZC v8];exact⟨o,by lia,by rw[r];exact z⟩
 .obtain⟨y,_,l⟩:=h;intro p m;rw[d8,M6] at l;exact q p _ k (y.trans (u7.new m)) j3 (l.mono λa I e=>u7.new m _ _ e)
end
def BQ (H:Hp):T9->List V->Prop
 | [],[]=>True
 | p::T,y::b=>(∃r a q,y=.ref r/\H r=some (.tup [.ref a,.ref q])/\H a=some (.tup (p.1.map V.int))/\H q=some (.tup ((fr p.2).map V.int)))/\BQ H T b
 | _,_=>False
theorem BQ.same {H H':Hp} (g:u7 H H'):∀{T:T9}{ys:List V},BQ H T ys->BQ H' T ys
 | [],[],_=>trivial
 | _::_,_::_,h=>⟨let ⟨r,d,q,e,a,b,c⟩:=h.1;⟨r,d,q,e,g _ _ a,g _ _ b,g _ _ c⟩,BQ.same g h.2⟩
 | [],_::_,h=>h.elim
 | _::_,[],h=>h.elim
theorem BQ.len {H:Hp}:∀{T:T9}{ys:List V},BQ H T ys->ys.length=T.length
 | [],[],_=>rfl
 | _::_,_::_,h=>by rw[n5,n5,BQ.len h.2]
 | [],_::_,h=>h.elim
 | _::_,[],h=>h.elim
theorem BQ.get {H:Hp}:∀{T:T9}{ys:List V}{i:Nat}{y:V},BQ H T ys->ys[i]?=some y->∃p r d q,T[i]?=some p/\y=.ref r/\H r=some (.tup [.ref d,.ref q])/\H d=some (.tup (p.1.map V.int))/\H q=some (.tup ((fr p.2).map V.int))
 | p::_,_::_,0,_,h,e=>by
  obtain⟨r,d,q,e1,a,b,c⟩:=h.1;cases e;exact⟨p,r,d,q,rfl,e1,a,b,c⟩
 | _::_,_::_,i+1,_,h,e=>BQ.get (i:=i) h.2 (by simpa using e)
 | [],[],_,_,_,e=>by simp at e
 | [],_::_,_,_,h,_=>h.elim
 | _::_,[],_,_,h,_=>h.elim
theorem BQ.of {H:Hp}:∀{T:T9}{kvs:List (List O0 × V)}{ys:List V},QE H T kvs->QW H kvs ys->BQ H T ys
 | [],[],[],_,_=>trivial
 | p::T,d::kvs,y::ys,⟨a,⟨q,e,f⟩,c⟩,h=>by
  obtain⟨k,x⟩:=d;obtain⟨r,g,e1,i,b⟩:=h.1;have a:k=kI p.1:=a;have e:x=.ref q:=e;subst a e;rw[Dj] at b;exact⟨⟨r,g,q,e1,i,b,f⟩,BQ.of c h.2⟩
 | [],[],_::_,_,h=>h.elim
 | [],_::_,_,h,_=>h.elim
 | _::_,[],_,h,_=>h.elim
 | _::_,_::_,[],_,h=>h.elim
def xl {l:Addr}{H H':Hp}{o:HO} (c:H l=some o) (d:∀b,o≠.tup b) (k:Kp l H H'):∀a b,H a=some (.tup b)->H' a=some (.tup b):=λa b e=>k a _ (λz=>by rw[z,c] at e;injection e with e;exact d _ e) e
section
variable {P:j0}{w:w5}{K:m9}{mg:Str->Option b9}{base:Heap}{f:Addr}{fd:C5}
def se:Sp:=λg H Q _=>∃(d st:Addr) (v:V) (n m N E:Nat) (T:T9) (b:List (List O0 × V)) (e:List (List Int)),g=[.ref d,v]/\H d=some (.dT b)/\QE H T b/\jy n m T/\m<=50/\T.length<=1024/\je N E T/\0<N/\N<=2 ^ 1600/\E<=2 ^ 60/\Dt st H (DR e) v/\Mt.jx n 5 e/\n<=4 /\
 ∀p a c,Kp d H c->H p=none->c p=some (.dT a)->QE c (sQ e T) a->Q (.ref p) c
abbrev wK:Stmt:=top 41
def gM:C6 ["chances","rule","later","urn","so_far","balls","behind","part"] ["chances","rule"] (A0 wK):=aS
def IJ (F:aU K "next_chances" "next_chances" wK f fd) (B:Bt mg) (c1:Y1 P w K mg base 2 "urns_behind_one" ["urn","rule"] AC) (c2:Y1 P w K mg base 3 "times" ["one","other"] nZ) (c3:Y1 P w K mg base 2 "fraction" ["top","bottom"] cX) (c4:Y1 P w K mg base 3 "plus" ["one","other"] rl):K6 P w K mg base ee 4 f fd ["chances","rule"] se:=by
 refine F.ok gM (λvs H Q E h=>?_) (λdr A bz s H vs Q E hr h=>?_)
 .obtain⟨d,st,v,n,m,N,E,T,I,g,rfl,_⟩:=h;rfl
 obtain⟨d,st,v,n,m,N,En,T,I,g,rfl,hd,hQ,hK,hm,hT,hE,ac,hN,a4,hv,hR,n4,q⟩:=h;refine⟨_,m8 (F7 (i:=2) gM.nd rfl (B6 rfl) Il)
  (m8 (eQ M4 rfl (Ig (pv 0)) (sG rfl (X8 (U6 (i:=3) gM.nd rfl (B6 rfl)) (X8 (U6 (i:=4) gM.nd rfl (B6 rfl)) iA)))
   (u6 (eQ M4 rfl (cQ (D9 (c1.up (by decide)) hr rfl (b8 (pv 3) (b8 (pv 1) i3)))) (sG rfl (X8 (U6 (i:=5) gM.nd rfl (B6 rfl)) (X8 (U6 (i:=6) gM.nd rfl (B6 rfl)) iA)))
    (m8 (F7 (i:=7) gM.nd rfl (B6 rfl) (D9 c2 hr rfl (b8 (pv 4) (b8 (D9 (c3.up (by decide)) hr rfl (b8 (pv 5) (b8 (D4 (dP rfl) rfl B.sum DQ (b8 (pv 3) i3)) i3))) i3))))
    (u6 (rn (ki hr) (pv 2) (pv 6) (D9 c4 hr rfl (b8 (Im (ki hr) (pv 2) (pv 6) (mQ (b8 A7 (b8 A7 i3))) ⟨rfl,rfl,rfl,rfl⟩) (b8 (pv 7) i3))) rfl))))))
  (u6 (C8 (pv 2)))),?_⟩
 have c0:=Kg hd hv;have dp:∀p∈T,(∀b∈p.1,0<=b)/\0<p.1.sum:=λp hp=>⟨λb hb=>((hK p hp).nn b hb).1,(hK p hp).pos⟩
 intro lt J;have a5:d≠lt:=A5 hd J;have ds:∀(o:Obj) (ps:List (List O0 × V)) xs,HO.frz o (.dT ps)≠.tup xs:=λ_ _ _ z=>by cases z
 have a6:∀(ps:List (List O0 × V)) xs,HO.dT ps≠.tup xs:=λ_ _ z=>by cases z
 refine⟨_,rfl,d,I,rfl,(by rw[t9 a5];exact hd),λo=>?_⟩;have k0:Kp d H (C3 (C3 H lt (.dT [])) d (.frz o (.dT I))):=λb u nb e=>by rw[t9 nb,t9 (A5 e J)];exact e
 refine EY (o:=o) (λi L C=>Kp d H C/\C d=some (.frz o (.dT I))/\(∃ks,C lt=some (.dT ks)/\QE C (Z0 g (T.take i) []) ks)/\i<=T.length/\∃o3 o4 o5 o6 o7,L=[some (.ref d),some v,some (.ref lt),o3,o4,o5,o6,o7])
  ⟨k0,j3,⟨[],by rw[t9 a5.symm,j3],trivial⟩,A6 _,none,none,none,none,none,rfl⟩ (λi L C _ h=>h.2.1) (λi k x L C p ka hx hp M h=>?_) (λL C h=>?_)
 .obtain⟨k2,ad,⟨O,a7,R⟩,hi,o3,o4,o5,o6,o7,rfl⟩:=h;obtain⟨um,S,ek,xq,ex,al⟩:=hQ.get hx;subst ek ex;obtain⟨u,l⟩:=um;simp only at M al;have c5:=(ZW.mp S).1;have r:Mt.jW n m u:=hK (u,l) (r0 S);have U:Vq N En l:=hE (u,l) (r0 S);rw[Dj] at M;refine⟨p,_,rfl,.of j3,rfl,_,_,rfl,_,_,rfl,rfl,?_⟩;have g3:u7 C (C3 C p (.tup [.ref ka,.ref xq])):=u7.new hp;show Sk _ _ _ _ _ (C3 C p (.tup [.ref ka,.ref xq]));generalize C3 C p (.tup [.ref ka,.ref xq])=H3 at g3;have k3:Kp d H H3:=k2.trans (g3.kp d);refine⟨_,rfl,_,rfl,ka,d,v,n,u,g,rfl,g3 _ _ M,r.len,c0.kp k3,hR,n4,λpl H4 ts g4 a8 am=>⟨pl,rfl,⟨_,.of a8⟩,?_⟩⟩;have k4:Kp d H H4:=k3.trans (g4.kp d);have a9:=g4 _ _ (g3 _ _ a7);have c6:=g4 _ _ (g3 _ _ ad);have c7:QE H4 (Z0 g (T.take i) []) O:=R.mono λa xs e=>g4 _ _ (g3 _ _ e);have c8:H4 xq=some (.tup ((fr l).map V.int)):=xl hd (a6 _) k4 _ _ al;have an:H4 ka=some (.tup (u.map V.int)):=g4 _ _ (g3 _ _ M);obtain⟨c9,ca,cc,cd⟩:=pL (D:=[]) (B:=0) hR n4 hm (T.take i) (λq hq=>hK q (D6 hq)) (λq hq=>hE q (D6 hq)) (λp hp=>by simp at hp) (by unfold xV;simp) (λp hp=>by simp at hp);have ce:(T.take i).length<=1024:=by rw[B0];lia
  have dt:(Z0 g (T.take i) []).length<=4*1024:=j9 cd (by rw[aF,U9];exact N7 n4 ce);have dv:(va g u).length<=4:=j9 (De r) n4;have D:=r.pos;have ap:=Cu r n4 hm;refine gY (K:=K) (a:=pl) (xs:=ts) (λj L Y=>Kp lt H4 Y/\(∃ks,Y lt=some (.dT ks)/\QE Y (cJ l u.sum ((va g u).take j) (Z0 g (T.take i) [])) ks)/\j<=ts.length/\∃o5 o6 o7,L=[some (.ref d),some v,some (.ref lt),some (.ref ka),some (.ref xq),o5,o6,o7])
   ⟨Kp.refl _ _,⟨O,a9,c7⟩,A6 _,o5,o6,o7,rfl⟩ (λj L Y _ h=>.of (h.1 _ _ (jt a8 a9 (by intro z;cases z)) a8)) (λj t L Y ht h=>?_) (λL Y h=>?_)
  .obtain⟨k5,⟨y,ab,Z⟩,hj,o5,o6,o7,rfl⟩:=h;obtain⟨b,q',w',hb,rfl,ch,ci⟩:=am.get ht;have ck:=(ZW.mp ht).1;have a0:=xl a9 (a6 _) k5;have cl:=a0 _ _ ch;have co:=a0 _ _ ci;have cp:=a0 _ _ c8;have ar:=a0 _ _ an;obtain⟨bb,bu⟩:=sU hR r (r0 hb);obtain⟨dx,cr,ct,dy⟩:=sy (m:=m+5) U D ap ((va g u).take j) (λc hc=>sU hR r (D6 hc)) c9 ca cc;have e0:((va g u).take j).length<=4:=by rw[B0];lia
   have ax:(cJ l u.sum ((va g u).take j) (Z0 g (T.take i) [])).length<=10000:=by lia
   have cv:Vq LL 1 (cut b.1 u.sum):=JS (by lia) bb.2 D ap;have cb:Bd 12 (cut b.1 u.sum):=Bd.cut D (by show _<=4096;lia) (by show _<=4096;lia);have ay:Vq (N*LL) En (l*cut b.1 u.sum):=(U.mul cv).mono (by lia);have b0:N*LL<=2 ^ 1900:=by
    have:(2:Nat) ^ 1900=2 ^ 1600*2 ^ 300:=by rw[<- X7]
    rw[this];exact N7 hN NZ
   have a2:0<N*LL:=nU ac Kf;have big:∀X:Nat,X<=2 ^ 60*2 ^ 13->N*LL*X<=2 ^ 1973:=λX hX=>by
    have:(2:Nat) ^ 1973=2 ^ 1900*(2 ^ 60*2 ^ 13):=by rw[<- X7,<- X7]
    rw[this];exact N7 b0 hX
   have a3:N*LL<=2 ^ 1973:=j9 b0 (G4 (by decide) (by decide));have d1:Bd 1660 l:=U.bd ac (by
    have:(2:Nat) ^ 1660=2 ^ 1600*2 ^ 60:=by rw[<- X7]
    rw[this];exact N7 hN a4) (j9 hN (G4 (by decide) (by decide)))
   have d2:Bd 1973 (l*cut b.1 u.sum):=ay.bd a2 (big _ (j9 a4 (Nat.le_mul_of_pos_right _ (by decide)))) a3;have vv:=ct.val (k:=b.2);have d3:Bd 1973 (rP (cJ l u.sum ((va g u).take j) (Z0 g (T.take i) [])) b.2):=vv.bd a2 (big _ (by
    have e1:0+En*(4*(T.take i).length)+En*((va g u).take j).length<=En*(2 ^ 13):=by rw[U9,<- bE];exact V0 _ (by lia)
    exact j9 e1 (Nat.mul_le_mul_right _ a4))) a3
   refine⟨q',_,rfl,.of cl,rfl,_,_,rfl,_,_,rfl,rfl,?_⟩;have b4:Y w'=some (.tup ((kI b.2).map kV)):=by rw[Dj];exact co
   refine⟨_,rfl,_,rfl,_,rfl,ka,u,rfl,.inr (.of ar),b.1,u.sum,rfl,by lia,D,Jf (n:=12) D (by show _<=4096;lia) (by decide),λp6 H6 g6 d0=>?_⟩;refine⟨xq,p6,l,cut b.1 u.sum,1660,12,rfl,g6 _ _ cp,d0,Rat.num_nonneg.mpr U.nn,Rat.num_nonneg.mpr cv.nn,d1,cb,by decide,λp7 H7 g7 d4=>?_⟩;have a1:=g6.trans g7;have b5:=a1 _ _ ab;have d5:=a1 _ _ b4;refine⟨_,rfl,lt,rfl,.inr ⟨_,.inl b5⟩,_,rfl,(by show 2<=j6;decide),λp8 d6=>?_⟩;have g8:u7 H7 (C3 H7 p8 (.tup [.int 0,.int 1])):=u7.new d6;have b6:pY (C3 H7 p8 (.tup [.int 0,.int 1])) 0 (.ref p8):=⟨p8,rfl,j3⟩
   try dsimp -proj only
   generalize C3 H7 p8 (.tup [.int 0,.int 1])=H8 at g8 b6;have bc:=g8 _ _ b5;have be:=g8 _ _ d5;have bi:QE H8 (cJ l u.sum ((va g u).take j) (Z0 g (T.take i) [])) y:=Z.mono λa xs e=>g8 _ _ (a1 _ _ e);obtain⟨r8,d7,db⟩:=bi.val (k:=b.2) b6;refine⟨_,jz.t bc be,?_⟩;rw[d7];refine⟨_,rfl,r8,p7,_,l*cut b.1 u.sum,1973,1973,rfl,db,g8 _ _ d4,Rat.num_nonneg.mpr vv.nn,Rat.num_nonneg.mpr ay.nn,d3,d2,by decide,λp9 H9 g9 dg=>?_⟩;have dk:u7 Y H9:=a1.trans (g8.trans g9);have bm:=g9 _ _ bc;have dn:=g9 _ _ be;have bn:QE H9 (cJ l u.sum ((va g u).take j) (Z0 g (T.take i) [])) y:=bi.mono λa xs e=>g9 _ _ e;refine⟨_,rfl,_,rfl,lt,_,rfl,uQ.t bm dn (by rw[bn.len];exact Eo ax),?_⟩;have bv:=bn.put (k:=b.2) (x:=l*cut b.1 u.sum) (v:=.ref p9) cr ⟨p9,rfl,dg⟩;have k10:Kp lt H4 (C3 H9 lt (.dT (aK y (kI b.2) (.ref p9)))):=(k5.trans (dk.kp lt)).trans Kp.at;refine⟨k10,⟨_,j3,?_⟩,ck,_,_,_,rfl⟩;rw[D8,hb];show QE _ (cJ l u.sum ((va g u).take j++[b]) _) _;rw[sA];exact bv.mono (xl bm (a6 _) Kp.at)
  .obtain⟨k5,⟨y,ab,Z⟩,_,o5,o6,o7,rfl⟩:=h;have bx:H lt=none:=J;refine⟨λc o nc e=>k5 _ _ (A5 e bx) (k4 _ _ nc e),k5 _ _ a5 c6,⟨y,ab,?_⟩,c5,_,_,_,_,_,rfl⟩;rw[D8,S];show QE Y (Z0 g (T.take i++[(u,l)]) []) y;rw[qv];rw[am.len,M6] at Z;exact Z
 .obtain⟨k2,ad,⟨O,a7,R⟩,_,o3,o4,o5,o6,o7,rfl⟩:=h;rw[hQ.len,M6] at R;exact⟨_,rfl,q lt O C k2 J a7 R⟩
end
end G
set_option maxHeartbeats 8000000
namespace So
open PySem PyProof.Rows
def gallop' : Bool → Keyed → Array Keyed → Nat → Nat → Nat → StateT SortSt Sem (Option Nat) := sortPriv% PySem.Builtin.gallop
def mergeLo' : Array Keyed → Array Keyed → StateT SortSt Sem (Array Keyed) := sortPriv% PySem.Builtin.mergeLo
def mergeHi' : Array Keyed → Array Keyed → StateT SortSt Sem (Array Keyed) := sortPriv% PySem.Builtin.mergeHi
theorem pm_mid {l m O k : List Keyed} (h : O.Perm (l ++ m)) : (O ++ k).Perm ((l ++ k) ++ m) := by
  refine (h.append_right k).trans ?_
  rw [List.append_assoc, List.append_assoc]
  exact (List.perm_append_comm).append_left _
theorem pm_end {l m O k : List Keyed} (h : O.Perm (l ++ m)) : (O ++ k).Perm (l ++ (m ++ k)) := by
  rw [← List.append_assoc]
  exact h.append_right k
theorem ext_list (a : Array Keyed) (i j : Nat) : (a.extract i j).toList = (a.toList.drop i).take (j - i) := by simp [Array.toList_extract, List.extract]
theorem one_of {a : Array Keyed} {i : Nat} {x : Keyed} (h : a[i]? = some x) : a.toList.take (i + 1) = a.toList.take i ++ [x] ∧ a.toList.drop i = x :: a.toList.drop (i + 1) := by
  have h1 := List.getElem?_eq_some_iff.mp (show a.toList[i]? = some x by simpa using h)
  exact ⟨by rw [List.take_add_one, List.getElem?_eq_getElem h1.1, h1.2]; rfl, by rw [List.drop_eq_getElem_cons h1.1, h1.2]⟩
abbrev Fn (a b r : Array Keyed) : Prop := r.toList.Perm (a.toList ++ b.toList)
section
variable {a b out : Array Keyed} {ia ib : Nat}
def Mg (a b out : Array Keyed) (ia ib : Nat) : Prop := out.toList.Perm (a.toList.take ia ++ b.toList.take ib)
theorem Mg.pushA (h : Mg a b out ia ib) {x : Keyed} (hx : a[ia]? = some x) : Mg a b (out.push x) (ia + 1) ib := by
  unfold Mg
  rw [Array.toList_push, (one_of hx).1]
  exact pm_mid h
theorem Mg.pushB (h : Mg a b out ia ib) {x : Keyed} (hx : b[ib]? = some x) : Mg a b (out.push x) ia (ib + 1) := by
  unfold Mg
  rw [Array.toList_push, (one_of hx).1]
  exact pm_end h
theorem Mg.extA (h : Mg a b out ia ib) (k : Nat) : Mg a b (out ++ a.extract ia (ia + k)) (ia + k) ib := by
  unfold Mg
  rw [Array.toList_append, ext_list, show ia + k - ia = k by lia, List.take_add]
  exact pm_mid h
theorem Mg.extB (h : Mg a b out ia ib) (k : Nat) : Mg a b (out ++ b.extract ib (ib + k)) ia (ib + k) := by
  unfold Mg
  rw [Array.toList_append, ext_list, show ib + k - ib = k by lia, List.take_add]
  exact pm_end h
theorem ext_all (a : Array Keyed) (i : Nat) : (a.extract i).toList = a.toList.drop i := by
  rw [ext_list, List.take_of_length_le (by rw [List.length_drop, Array.length_toList]; lia)]
theorem Mg.done (h : Mg a b out ia ib) : Fn a b (out ++ a.extract ia ++ b.extract ib) := by
  unfold Fn
  rw [Array.toList_append, Array.toList_append, ext_all, ext_all]
  have := pm_end (k := b.toList.drop ib) (pm_mid (k := a.toList.drop ia) h)
  rw [List.take_append_drop, List.take_append_drop] at this
  exact this
theorem Mg.last (h : Mg a b out ia ib) : Fn a b (out ++ b.extract ib ++ a.extract ia) := by
  refine List.Perm.trans ?_ h.done
  simp only [Array.toList_append, List.append_assoc]
  exact (List.perm_append_comm).append_left _
def Mh (a b out : Array Keyed) (na nb : Nat) : Prop := out.toList.Perm (a.toList.drop na ++ b.toList.drop nb)
theorem Mh.pushA (h : Mh a b out (ia + 1) ib) {x : Keyed} (hx : a[ia]? = some x) : Mh a b (out.push x) ia ib := by
  unfold Mh
  rw [Array.toList_push, (one_of hx).2]
  exact (List.perm_append_comm).trans (h.cons x)
theorem Mh.pushB (h : Mh a b out ia (ib + 1)) {x : Keyed} (hx : b[ib]? = some x) : Mh a b (out.push x) ia ib := by
  unfold Mh
  rw [Array.toList_push, (one_of hx).2]
  exact ((List.perm_append_comm).trans (h.cons x)).trans List.perm_middle.symm
theorem dr_cut {l : List Keyed} {k n : Nat} (h : k ≤ n) : l.drop k = (l.drop k).take (n - k) ++ l.drop n := by
  conv => lhs; rw [← List.take_append_drop (n - k) (l.drop k)]
  rw [List.drop_drop, show k + (n - k) = n by lia]
theorem Mh.extA (h : Mh a b out ia ib) {k : Nat} (hk : k ≤ ia) : Mh a b (out ++ (a.extract k ia).reverse) k ib := by
  unfold Mh
  rw [Array.toList_append, Array.toList_reverse, ext_list]
  have e := dr_cut (l := a.toList) hk
  generalize (a.toList.drop k).take (ia - k) = L at e
  rw [e, List.append_assoc]
  exact (List.perm_append_comm).trans ((List.reverse_perm _).append h)
theorem Mh.extB (h : Mh a b out ia ib) {k : Nat} (hk : k ≤ ib) : Mh a b (out ++ (b.extract k ib).reverse) ia k := by
  unfold Mh
  rw [Array.toList_append, Array.toList_reverse, ext_list]
  have e := dr_cut (l := b.toList) hk
  generalize (b.toList.drop k).take (ib - k) = L at e
  rw [e]
  refine ((h.append (List.reverse_perm _))).trans ?_
  rw [List.append_assoc]
  exact (List.perm_append_comm).append_left _
theorem Mh.done (h : Mh a b out ia ib) : Fn a b (a.extract 0 ia ++ b.extract 0 ib ++ out.reverse) := by
  unfold Fn
  rw [Array.toList_append, Array.toList_append, Array.toList_reverse, ext_list, ext_list]
  simp only [List.drop_zero, Nat.sub_zero]
  have e : (a.toList ++ b.toList) = (a.toList.take ia ++ a.toList.drop ia) ++ (b.toList.take ib ++ b.toList.drop ib) := by rw [List.take_append_drop, List.take_append_drop]
  rw [e]
  refine (((List.reverse_perm _).trans h).append_left _).trans ?_
  rw [List.append_assoc, List.append_assoc]
  refine List.Perm.append_left _ ?_
  rw [← List.append_assoc, ← List.append_assoc]
  exact (List.perm_append_comm).append_right _
theorem Mh.first (h : Mh a b out ia ib) : Fn a b (b.extract 0 ib ++ a.extract 0 ia ++ out.reverse) := by
  refine List.Perm.trans ?_ h.done
  simp only [Array.toList_append]
  exact (List.perm_append_comm).append_right _
end
def Gl (st st' : SortSt) : Prop := kindOf st' = kindOf st ∧ arrOf st' = arrOf st ∧ pendingOf st' = pendingOf st ∧ failedOf st' = failedOf st
theorem Gl.refl (st : SortSt) : Gl st st := ⟨rfl, rfl, rfl, rfl⟩
section
variable {prog : Program} {w : World} {A : Around} {E : Value → Shared → Prop} {s : Shared} {M : Keyed → Prop} {κ : SortKind}
def Ask (prog : Program) (w : World) (A : Around) (s : Shared) (M : Keyed → Prop) (κ : SortKind) : Prop := ∀ x y : Keyed, M x → M y → ∀ Q : Bool → Shared → Prop, (∀ b, Q b s) → wpAny (model prog w) A (keyLt' κ x.1 y.1) Q (fun _ _ => False) s
theorem wpS_lt {x y : Keyed} {st : SortSt} {Q : Option Bool → SortSt → Prop} (hA : Ask prog w A s M κ) (hk : kindOf st = κ) (hx : M x) (hy : M y) (h : ∀ b, Q (some b) st) : wpS (model prog w) A E s (lt' x y) Q st := by
  rw [lt'_eq]
  refine wpS_bind (wpS_get ?_)
  rw [hk]
  refine wpS_bind (wpS_lift (wpAny_attempt (wpAny_mono (hA x y hx hy (fun _ s' => s' = s) fun _ => rfl) (fun b s' hb => ⟨hb, ?_⟩) fun _ _ z => z.elim)))
  subst hb
  exact wpS_pure (h b)
theorem wpS_at {arr : Array Keyed} {i : Nat} {st : SortSt} {Q : Keyed → SortSt → Prop} (m : ∀ x ∈ arr.toList, M x) (hi : i < arr.size) (q : ∀ x, arr[i]? = some x → M x → Q x st) : wpS (model prog w) A E s (elem' arr i) Q st := by
  have h : arr[i]? = some arr[i] := Array.getElem?_eq_getElem hi
  rw [elem'_eq, h]
  exact wpS_pure (q _ h (m _ (Array.getElem_mem_toList hi)))
theorem wsh {α β δ : Type} {C : α → β → Prop} {N : Model} {f : α → β → StateT SortSt Sem δ} {Q : δ → SortSt → Prop} {st : SortSt} {G : Prop} (h : (∀ x y, C x y → wpS N A E s (f x y) Q st) → G) (t : ∀ x y, C x y → wpS N A E s (f x y) Q st) : G := h t
theorem wpS_if {δ : Type} {N : Model} {c : Prop} [Decidable c] {t e : StateT SortSt Sem δ} {Q : δ → SortSt → Prop} {st : SortSt} (h1 : c → wpS N A E s t Q st) (h2 : ¬ c → wpS N A E s e Q st) : wpS N A E s (if c then t else e) Q st := by
  by_cases h : c
  · rw [if_pos h]; exact h1 h
  · rw [if_neg h]; exact h2 h
theorem wpS_fi {δ : Type} {N : Model} {c : Prop} [Decidable c] {t e : StateT SortSt Sem δ} {Q : δ → SortSt → Prop} {st : SortSt} (h2 : ¬ c → wpS N A E s e Q st) (h1 : c → wpS N A E s t Q st) : wpS N A E s (if c then t else e) Q st := wpS_if h1 h2
theorem wpS_ifE {δ : Type} {N : Model} {x y : Nat} {t e : StateT SortSt Sem δ} {Q : δ → SortSt → Prop} {st : SortSt} (h1 : x = y → wpS N A E s t Q st) (h2 : x ≠ y → wpS N A E s e Q st) : wpS N A E s (if (x == y) = true then t else e) Q st :=
  wpS_if (fun h => h1 (by simpa using h)) fun h => h2 (by simpa using h)
theorem wpS_ltB {δ : Type} {x y : Keyed} {f : Option Bool → StateT SortSt Sem δ} {st : SortSt} {Q : δ → SortSt → Prop} (hA : Ask prog w A s M κ) (hk : kindOf st = κ) (hx : M x) (hy : M y) (h : ∀ b, wpS (model prog w) A E s (f (some b)) Q st) : wpS (model prog w) A E s (lt' x y >>= f) Q st := wpS_bind (wpS_lt hA hk hx hy h)
theorem wpS_atB {δ : Type} {arr : Array Keyed} {i : Nat} {f : Keyed → StateT SortSt Sem δ} {st : SortSt} {Q : δ → SortSt → Prop} (m : ∀ x ∈ arr.toList, M x) (hi : i < arr.size) (q : ∀ x, arr[i]? = some x → M x → wpS (model prog w) A E s (f x) Q st) : wpS (model prog w) A E s (elem' arr i >>= f) Q st := wpS_bind (wpS_at m hi q)
theorem wpS_forB {γ δ : Type} {N : Model} {a b : Nat} {c0 : γ} {f : Nat → γ → StateT SortSt Sem (ForInStep γ)} {g : γ → StateT SortSt Sem δ} {st : SortSt} {Q : δ → SortSt → Prop} (I : Nat → γ → SortSt → Prop) (J : γ → SortSt → Prop) (h0 : I a c0 st)
    (hs : ∀ x c st' (R : ForInStep γ → SortSt → Prop), a ≤ x → x < b → I x c st' → (∀ c' s', I (x + 1) c' s' → R (.yield c') s') → (∀ c' s', J c' s' → R (.done c') s') → wpS N A E s (f x c) R st')
    (hj : ∀ c st', I (max a b) c st' → J c st') (hg : ∀ c st', J c st' → wpS N A E s (g c) Q st') : wpS N A E s (forIn [a:b] c0 f >>= g) Q st :=
  wpS_bind (wpS_mono (wpS_forRange (I := I) (Q := J) (fun x c st' h1 h2 h => hs x c st' _ h1 h2 h (fun _ _ z => z) fun _ _ z => z) hj h0) hg)
theorem gallop_ok {left : Bool} {key : Keyed} {arr : Array Keyed} {b n hint : Nat} {st : SortSt} {Q : Option Nat → SortSt → Prop} (hA : Ask prog w A s M κ) (hk : kindOf st = κ) (mk : M key) (m : ∀ x ∈ arr.toList, M x) (hh : hint < n) (hs : b + n ≤ arr.size) (h : ∀ k, k ≤ n → Q (some k) st) : wpS (model prog w) A E s (gallop' left key arr b n hint) Q st := by
  have step : ∀ (i : Nat) (Q' : Option Bool → SortSt → Prop), i < n → (∀ c, Q' (some c) st) → wpS (model prog w) A E s (do let x ← elem' arr (b + i); if left = true then lt' x key else do let r ← lt' key x; pure (Option.map (fun x => !x) r)) Q' st := fun i Q' hi q => by
    refine wpS_bind (wpS_at m (by lia) fun x _ mx => ?_)
    cases left with
    | true => exact wpS_lt hA hk mx mk q
    | false => exact wpS_bind (wpS_lt hA hk mk mx fun c => wpS_pure (q _))
  refine wpS_bind (step hint _ hh fun c => ?_)
  have fin : ∀ lo hi (Q' : Option (Option Nat) × Nat × Nat → SortSt → Prop), hi ≤ n → (∀ l k, k ≤ n → Q' (none, l, k) st) → wpS (model prog w) A E s (forIn [0:n] (none, lo, hi) fun (_ : Nat) (c : Option (Option Nat) × Nat × Nat) => if c.2.1 ≥ c.2.2 then pure (ForInStep.done (none, c.2.1, c.2.2)) else do
        let r ← (do let x ← elem' arr (b + (c.2.1 + (c.2.2 - c.2.1) / 2)); if left = true then lt' x key else do let r ← lt' key x; pure (Option.map (fun x => !x) r))
        match r with
        | some more => if more = true then pure (ForInStep.yield (none, c.2.1 + (c.2.2 - c.2.1) / 2 + 1, c.2.2)) else pure (ForInStep.yield (none, c.2.1, c.2.1 + (c.2.2 - c.2.1) / 2))
        | x => pure (ForInStep.done (some none, c.2.1, c.2.2))) Q' st := fun lo hi Q' hn q => by
    refine wpS_forRange (I := fun x c st' => st' = st ∧ ∃ l k, c = (none, l, k) ∧ k ≤ n) ?_ ?_ ⟨rfl, lo, hi, rfl, hn⟩
    · rintro x c st' _ _ ⟨rfl, l, k, rfl, hk⟩
      dsimp only
      by_cases hge : l ≥ k
      · rw [if_pos hge]; exact wpS_pure (q _ _ hk)
      · rw [if_neg hge]
        refine wpS_bind (step _ _ (by lia) fun c => ?_)
        cases c with
        | true => exact wpS_pure ⟨rfl, _, _, rfl, hk⟩
        | false => exact wpS_pure ⟨rfl, _, _, rfl, by lia⟩
    · rintro c st' ⟨rfl, l, k, rfl, hk⟩
      exact q _ _ hk
  cases c with
  | true =>
    dsimp only
    rw [if_pos rfl]
    refine wpS_bind (wpS_mono (wpS_forRange (I := fun _ c st' => st' = st ∧ ∃ la of, c = (none, la, of)) (Q := fun c st' => st' = st ∧ ∃ la of, c = (none, la, of)) ?_ (fun _ _ z => z) ⟨rfl, 0, 1, rfl⟩) ?_)
    · rintro x c st' _ _ ⟨rfl, la, of, rfl⟩
      dsimp only
      by_cases hge : of ≥ n - hint
      · rw [if_pos hge]; exact wpS_pure ⟨rfl, la, of, rfl⟩
      · rw [if_neg hge]
        refine wpS_bind (step _ _ (by lia) fun c => ?_)
        cases c <;> exact wpS_pure ⟨rfl, _, _, rfl⟩
    · rintro c st' ⟨rfl, la, of, rfl⟩
      exact wpS_bind (fin _ _ _ (by lia) fun l k hk => wpS_pure (h k hk))
  | false =>
    dsimp only
    rw [if_neg (by decide)]
    refine wpS_bind (wpS_mono (wpS_forRange (I := fun _ c st' => st' = st ∧ ∃ la of, c = (none, la, of)) (Q := fun c st' => st' = st ∧ ∃ la of, c = (none, la, of)) ?_ (fun _ _ z => z) ⟨rfl, 0, 1, rfl⟩) ?_)
    · rintro x c st' _ _ ⟨rfl, la, of, rfl⟩
      dsimp only
      by_cases hge : of ≥ hint + 1
      · rw [if_pos hge]; exact wpS_pure ⟨rfl, la, of, rfl⟩
      · rw [if_neg hge]
        refine wpS_bind (step _ _ (by lia) fun c => ?_)
        cases c <;> exact wpS_pure ⟨rfl, _, _, rfl⟩
    · rintro c st' ⟨rfl, la, of, rfl⟩
      exact wpS_bind (fin _ _ _ (by lia) fun l k hk => wpS_pure (h k hk))
theorem galB {δ : Type} {left : Bool} {key : Keyed} {arr : Array Keyed} {b n hint : Nat} {f : Option Nat → StateT SortSt Sem δ} {st : SortSt} {Q : δ → SortSt → Prop} (hA : Ask prog w A s M κ) (hk : kindOf st = κ) (mk : M key) (m : ∀ x ∈ arr.toList, M x) (hh : hint < n) (hs : b + n ≤ arr.size) (h : ∀ k, k ≤ n → wpS (model prog w) A E s (f (some k)) Q st) : wpS (model prog w) A E s (gallop' left key arr b n hint >>= f) Q st := wpS_bind (gallop_ok hA hk mk m hh hs h)
end
end So
namespace So
open PySem PyProof.Rows
section
variable {prog : Program} {w : World} {A : Around} {E : Value → Shared → Prop} {s : Shared} {M : Keyed → Prop} {κ : SortKind}
theorem mergeLo_ok {a b : Array Keyed} {st : SortSt} {Q : Array Keyed → SortSt → Prop} (hA : Ask prog w A s M κ) (hk : kindOf st = κ) (ma : ∀ x ∈ a.toList, M x) (mb : ∀ x ∈ b.toList, M x) (sa : 0 < a.size) (sb : 0 < b.size)
    (h : ∀ r st', Fn a b r → Gl st st' → Q r st') : wpS (model prog w) A E s (mergeLo' a b) Q st := by
  refine wpS_bind (wpS_lift (wpAny_rule ⟨rfl, wpS_atB mb sb fun b0 hb0 _ => ?_⟩))
  have m0 : Mg a b #[b0] 0 1 := Mg.pushB (out := #[]) (by unfold Mg; simp) hb0
  refine wpS_ifE (fun _ => wpS_pure (h _ _ m0.done (Gl.refl st))) fun e1 => wpS_ifE (fun _ => wpS_pure (h _ _ m0.last (Gl.refl st))) fun e2 => wpS_bind (wpS_get ?_)
  refine wpS_forB (fun x c st' => Gl st st' ∧ ∃ out ia ib mg, c = (none, out, ia, ib, mg) ∧ Mg a b out ia ib ∧ ia + 1 < a.size ∧ ib < b.size ∧ 1 + x ≤ ia + ib) (fun c st' => Gl st st' ∧ ∃ r, c.1 = some r ∧ Fn a b r)
    ⟨Gl.refl st, _, _, _, _, rfl, m0, by lia, by lia, by lia⟩ ?_ (fun c st' ⟨_, out, ia, ib, mg, e, _, z1, z2, z3⟩ => by lia) fun ⟨c1, c2⟩ st' ⟨gl, r, hr, hf⟩ => by cases hr; exact wpS_pure (h r st' hf gl)
  rintro x c st1 R _ _ ⟨gl, out, ia, ib, mg, rfl, hm, za, zb, zp⟩ y1 d1
  have hk1 : kindOf st1 = κ := gl.1.trans hk
  refine wpS_forB (fun y c st' => st' = st1 ∧ ∃ out ia ib ac bc, c = (none, out, ia, ib, ac, bc) ∧ Mg a b out ia ib ∧ ia + 1 < a.size ∧ ib < b.size ∧ 1 + x + y ≤ ia + ib) (fun c st' => st' = st1 ∧ ((∃ r, c.1 = some r ∧ Fn a b r) ∨ ∃ out ia ib ac bc, c = (none, out, ia, ib, ac, bc) ∧ Mg a b out ia ib ∧ ia + 1 < a.size ∧ ib < b.size ∧ 1 + x + 1 ≤ ia + ib))
    ⟨rfl, out, ia, ib, 0, 0, rfl, hm, za, zb, by lia⟩ ?_ (fun c st' ⟨_, out, ia, ib, ac, bc, e, hm, z1, z2, z3⟩ => by lia) ?_
  · clear hm za zb zp y1 d1
    rintro y c st' R _ _ ⟨rfl, out, ia, ib, ac, bc, rfl, hm, za, zb, zp⟩ y2 d2
    dsimp only
    refine wpS_atB mb zb fun bx hbx mbx => wpS_atB ma (by lia) fun ax hax max => wpS_ltB hA hk1 mbx max fun c => wpS_if (fun _ => wpS_atB mb zb fun bx hbx _ => ?_) fun _ => wpS_atB ma (by lia) fun ax hax _ => ?_
    · have hm' := hm.pushB hbx
      exact wpS_ifE (fun _ => wpS_pure (d2 _ _ ⟨rfl, .inl ⟨_, rfl, hm'.done⟩⟩)) fun e3 => wpS_if (fun _ => wpS_pure (d2 _ _ ⟨rfl, .inr ⟨_, _, _, _, _, rfl, hm', za, by lia, by lia⟩⟩)) fun _ => wpS_pure (y2 _ _ ⟨rfl, _, _, _, _, _, rfl, hm', za, by lia, by lia⟩)
    · have hm' := hm.pushA hax
      exact wpS_ifE (fun _ => wpS_pure (d2 _ _ ⟨rfl, .inl ⟨_, rfl, hm'.last⟩⟩)) fun e3 => wpS_if (fun _ => wpS_pure (d2 _ _ ⟨rfl, .inr ⟨_, _, _, _, _, rfl, hm', by lia, zb, by lia⟩⟩)) fun _ => wpS_pure (y2 _ _ ⟨rfl, _, _, _, _, _, rfl, hm', by lia, zb, by lia⟩)
  clear hm za zb zp
  rintro ⟨c1, c2⟩ st' ⟨rfl, (⟨r, hr, hf⟩ | ⟨out, ia, ib, ac, bc, e, hm, za, zb, zp⟩)⟩
  · cases hr
    exact wpS_pure (d1 _ _ ⟨gl, r, rfl, hf⟩)
  cases e
  refine wpS_bind (wpS_lift (wpAny_rule ⟨rfl, ?_⟩))
  refine wpS_forB (fun y c st' => Gl st st' ∧ ∃ out ia ib mg ac bc, c = (none, out, ia, ib, mg, ac, bc) ∧ Mg a b out ia ib ∧ ia + 1 < a.size ∧ ib < b.size ∧ 1 + x + 1 + y ≤ ia + ib)
    (fun c st' => Gl st st' ∧ ((∃ r, c.1 = some r ∧ Fn a b r) ∨ ∃ out ia ib mg ac bc, c = (none, out, ia, ib, mg, ac, bc) ∧ Mg a b out ia ib ∧ ia + 1 < a.size ∧ ib < b.size ∧ 1 + x + 1 ≤ ia + ib)) ⟨gl, out, ia, ib, _, ac, bc, rfl, hm, za, zb, by lia⟩ ?_ (fun c st' ⟨_, out, ia, ib, mg, ac, bc, e, hm, z1, z2, z3⟩ => by lia) ?_
  · clear hm za zb zp gl hk1 y1 d1
    rintro y c st2 R _ _ ⟨gl2, out, ia, ib, mg, ac, bc, rfl, hm, za, zb, zp⟩ y2 d2
    dsimp only
    have fin : ∀ r m i n g p q st', Gl st st' → Fn a b r → R (.done (some r, m, i, n, g, p, q)) st' := fun r m i n g p q st' gl hf => d2 _ _ ⟨gl, .inl ⟨_, rfl, hf⟩⟩
    apply wsh (C := fun m n : Nat => True)
    · intro T
      refine wpS_fi (fun _ => ?_) fun _ => ?_
      · obtain ⟨q, _⟩ : ∃ q : Nat, q = 0 := ⟨0, rfl⟩
        generalize mg = m
        exact T m q trivial
      · exact T _ 0 trivial
    intro mg _ _
    refine wpS_bind (wpS_modify ?_)
    have gl3 : Gl st (SortSt.mk' (kindOf st2) (arrOf st2) (pendingOf st2) mg (failedOf st2)) := gl2
    show wpS _ _ _ _ _ _ (SortSt.mk' (kindOf st2) (arrOf st2) (pendingOf st2) mg (failedOf st2))
    generalize SortSt.mk' (kindOf st2) (arrOf st2) (pendingOf st2) mg (failedOf st2) = st3 at gl3
    clear gl2
    refine wpS_atB mb zb fun bx hbx mbx => galB hA (gl3.1.trans hk) mbx ma (by lia) (by lia) fun k hk1 => ?_
    dsimp only
    apply wsh (C := fun (o : Array Keyed) i => Mg a b o i ib ∧ i + 1 < a.size ∧ 1 + x + 1 + y ≤ i + ib)
    · intro T
      refine wpS_fi (fun _ => ?_) fun _ => ?_
      · have hc : Mg a b out ia ib ∧ ia + 1 < a.size ∧ 1 + x + 1 + y ≤ ia + ib := ⟨hm, za, zp⟩
        revert hc
        generalize ia = i
        generalize out = o
        exact T o i
      · have hm1 := hm.extA k
        exact wpS_ifE (fun _ => wpS_pure (fin _ _ _ _ _ _ _ _ gl3 hm1.last)) fun e4 => wpS_ifE (fun _ => wpS_pure (fin _ _ _ _ _ _ _ _ gl3 hm1.done)) fun e5 => T _ _ ⟨hm1, by lia, by lia⟩
    clear hm za zp hk1
    intro o i ⟨hm, za, zp⟩
    refine wpS_atB mb zb fun bx hbx _ => ?_
    have hm2 := hm.pushB hbx
    refine wpS_ifE (fun _ => wpS_pure (fin _ _ _ _ _ _ _ _ gl3 hm2.done)) fun e6 => ?_
    generalize o.push bx = o2 at hm2 ⊢
    generalize hl : ib + 1 = l at hm2 e6 ⊢
    have zb2 : l < b.size := by lia
    have zp2 : 1 + x + 1 + y ≤ i + l := by lia
    clear hm zb zp e6 hl mbx hbx
    refine wpS_atB ma (by lia) fun ax hax max => galB hA (gl3.1.trans hk) max mb (by lia) (by lia) fun j hj1 => ?_
    dsimp only
    apply wsh (C := fun (o : Array Keyed) n => Mg a b o i n ∧ n < b.size ∧ 1 + x + 1 + y ≤ i + n)
    · intro T
      refine wpS_fi (fun _ => ?_) fun _ => ?_
      · have hc : Mg a b o2 i l ∧ l < b.size ∧ 1 + x + 1 + y ≤ i + l := ⟨hm2, zb2, zp2⟩
        revert hc
        generalize l = n
        generalize o2 = o
        exact T o n
      · have hm3 := hm2.extB j
        exact wpS_ifE (fun _ => wpS_pure (fin _ _ _ _ _ _ _ _ gl3 hm3.done)) fun e7 => T _ _ ⟨hm3, by lia, by lia⟩
    clear hm2 zb2 zp2 hj1
    intro o n ⟨hm, zn, zp⟩
    refine wpS_atB ma (by lia) fun ax hax _ => ?_
    have hm4 := hm.pushA hax
    exact wpS_ifE (fun _ => wpS_pure (fin _ _ _ _ _ _ _ _ gl3 hm4.last)) fun e8 => wpS_if (fun _ => wpS_pure (d2 _ _ ⟨gl3, .inr ⟨_, _, _, _, _, _, rfl, hm4, by lia, by lia, by lia⟩⟩)) fun _ => wpS_pure (y2 _ _ ⟨gl3, _, _, _, _, _, _, rfl, hm4, by lia, by lia, by lia⟩)
  · rintro ⟨c1, c2⟩ st2 ⟨gl2, (⟨r, hr, hf⟩ | ⟨out, ia, ib, mg, ac, bc, e, hm, za, zb, zp⟩)⟩
    · cases hr
      exact wpS_pure (d1 _ _ ⟨gl2, r, rfl, hf⟩)
    · cases e
      exact wpS_bind (wpS_modify (wpS_pure (y1 _ _ ⟨gl2, _, _, _, _, rfl, hm, za, zb, by lia⟩)))
end
end So
namespace So
open PySem PyProof.Rows
section
variable {prog : Program} {w : World} {A : Around} {E : Value → Shared → Prop} {s : Shared} {M : Keyed → Prop} {κ : SortKind}
theorem sub1 {n : Nat} (h : 0 < n) : n - 1 + 1 = n := Nat.sub_add_cancel h
theorem mergeHi_ok {a b : Array Keyed} {st : SortSt} {Q : Array Keyed → SortSt → Prop} (hA : Ask prog w A s M κ) (hk : kindOf st = κ) (ma : ∀ x ∈ a.toList, M x) (mb : ∀ x ∈ b.toList, M x) (sa : 0 < a.size) (sb : 0 < b.size)
    (h : ∀ r st', Fn a b r → Gl st st' → Q r st') : wpS (model prog w) A E s (mergeHi' a b) Q st := by
  refine wpS_bind (wpS_lift (wpAny_rule ⟨rfl, wpS_atB ma (by lia) fun al hal _ => ?_⟩))
  have m0 : Mh a b #[al] (a.size - 1) b.size := Mh.pushA (out := #[]) (by unfold Mh; rw [sub1 sa, List.drop_eq_nil_of_le (by simp), List.drop_eq_nil_of_le (by simp)]; exact List.Perm.refl _) hal
  refine wpS_ifE (fun _ => wpS_pure (h _ _ m0.done (Gl.refl st))) fun e1 => wpS_ifE (fun _ => wpS_pure (h _ _ m0.first (Gl.refl st))) fun e2 => wpS_bind (wpS_get ?_)
  refine wpS_forB (fun x c st' => Gl st st' ∧ ∃ na nb out mg, c = (none, na, nb, out, mg) ∧ Mh a b out na nb ∧ 0 < na ∧ 1 < nb ∧ na ≤ a.size ∧ nb ≤ b.size ∧ na + nb + 1 + x ≤ a.size + b.size) (fun c st' => Gl st st' ∧ ∃ r, c.1 = some r ∧ Fn a b r)
    ⟨Gl.refl st, _, _, _, _, rfl, m0, by lia, by lia, by lia, by lia, by lia⟩ ?_ (fun c st' ⟨_, na, nb, out, mg, e, _, z1, z2, z3⟩ => by lia) fun ⟨c1, c2⟩ st' ⟨gl, r, hr, hf⟩ => by cases hr; exact wpS_pure (h r st' hf gl)
  rintro x c st1 R _ _ ⟨gl, na, nb, out, mg, rfl, hm, za, zb, zas, zbs, zp⟩ y1 d1
  have hk1 : kindOf st1 = κ := gl.1.trans hk
  refine wpS_forB (fun y c st' => st' = st1 ∧ ∃ na nb out ac bc, c = (none, na, nb, out, ac, bc) ∧ Mh a b out na nb ∧ 0 < na ∧ 1 < nb ∧ na ≤ a.size ∧ nb ≤ b.size ∧ na + nb + 1 + x + y ≤ a.size + b.size) (fun c st' => st' = st1 ∧ ((∃ r, c.1 = some r ∧ Fn a b r) ∨ ∃ na nb out ac bc, c = (none, na, nb, out, ac, bc) ∧ Mh a b out na nb ∧ 0 < na ∧ 1 < nb ∧ na ≤ a.size ∧ nb ≤ b.size ∧ na + nb + 1 + x + 1 ≤ a.size + b.size))
    ⟨rfl, na, nb, out, 0, 0, rfl, hm, za, zb, zas, zbs, by lia⟩ ?_ (fun c st' ⟨_, na, nb, out, ac, bc, e, hm, z1, z2, z3⟩ => by lia) ?_
  · clear hm za zb zas zbs zp y1 d1
    rintro y c st' R _ _ ⟨rfl, na, nb, out, ac, bc, rfl, hm, za, zb, zas, zbs, zp⟩ y2 d2
    dsimp only
    refine wpS_atB mb (by lia) fun bx hbx mbx => wpS_atB ma (by lia) fun ax hax max => wpS_ltB hA hk1 mbx max fun c => wpS_if (fun _ => wpS_atB ma (by lia) fun ax hax _ => ?_) fun _ => wpS_atB mb (by lia) fun bx hbx _ => ?_
    · have hm' := Mh.pushA (ia := na - 1) (by rw [sub1 za]; exact hm) hax
      exact wpS_ifE (fun _ => wpS_pure (d2 _ _ ⟨rfl, .inl ⟨_, rfl, hm'.done⟩⟩)) fun e3 => wpS_if (fun _ => wpS_pure (d2 _ _ ⟨rfl, .inr ⟨_, _, _, _, _, rfl, hm', by lia, zb, by lia, zbs, by lia⟩⟩)) fun _ => wpS_pure (y2 _ _ ⟨rfl, _, _, _, _, _, rfl, hm', by lia, zb, by lia, zbs, by lia⟩)
    · have hm' := Mh.pushB (ib := nb - 1) (by rw [sub1 (by lia)]; exact hm) hbx
      exact wpS_ifE (fun _ => wpS_pure (d2 _ _ ⟨rfl, .inl ⟨_, rfl, hm'.first⟩⟩)) fun e3 => wpS_if (fun _ => wpS_pure (d2 _ _ ⟨rfl, .inr ⟨_, _, _, _, _, rfl, hm', za, by lia, zas, by lia, by lia⟩⟩)) fun _ => wpS_pure (y2 _ _ ⟨rfl, _, _, _, _, _, rfl, hm', za, by lia, zas, by lia, by lia⟩)
  clear hm za zb zas zbs zp
  rintro ⟨c1, c2⟩ st' ⟨rfl, (⟨r, hr, hf⟩ | ⟨na, nb, out, ac, bc, e, hm, za, zb, zas, zbs, zp⟩)⟩
  · cases hr
    exact wpS_pure (d1 _ _ ⟨gl, r, rfl, hf⟩)
  cases e
  refine wpS_bind (wpS_lift (wpAny_rule ⟨rfl, ?_⟩))
  refine wpS_forB (fun y c st' => Gl st st' ∧ ∃ na nb out mg ac bc, c = (none, na, nb, out, mg, ac, bc) ∧ Mh a b out na nb ∧ 0 < na ∧ 1 < nb ∧ na ≤ a.size ∧ nb ≤ b.size ∧ na + nb + 1 + x + 1 + y ≤ a.size + b.size)
    (fun c st' => Gl st st' ∧ ((∃ r, c.1 = some r ∧ Fn a b r) ∨ ∃ na nb out mg ac bc, c = (none, na, nb, out, mg, ac, bc) ∧ Mh a b out na nb ∧ 0 < na ∧ 1 < nb ∧ na ≤ a.size ∧ nb ≤ b.size ∧ na + nb + 1 + x + 1 ≤ a.size + b.size)) ⟨gl, na, nb, out, _, ac, bc, rfl, hm, za, zb, zas, zbs, by lia⟩ ?_ (fun c st' ⟨_, na, nb, out, mg, ac, bc, e, hm, z1, z2, z3⟩ => by lia) ?_
  · clear hm za zb zas zbs zp gl hk1 y1 d1
    rintro y c st2 R _ _ ⟨gl2, na, nb, out, mg, ac, bc, rfl, hm, za, zb, zas, zbs, zp⟩ y2 d2
    dsimp only
    have fin : ∀ r m i n g p q st', Gl st st' → Fn a b r → R (.done (some r, m, i, n, g, p, q)) st' := fun r m i n g p q st' gl hf => d2 _ _ ⟨gl, .inl ⟨_, rfl, hf⟩⟩
    apply wsh (C := fun m n : Nat => True)
    · intro T
      refine wpS_fi (fun _ => ?_) fun _ => ?_
      · obtain ⟨q, _⟩ : ∃ q : Nat, q = 0 := ⟨0, rfl⟩
        generalize mg = m
        exact T m q trivial
      · exact T _ 0 trivial
    intro mg _ _
    refine wpS_bind (wpS_modify ?_)
    have gl3 : Gl st (SortSt.mk' (kindOf st2) (arrOf st2) (pendingOf st2) mg (failedOf st2)) := gl2
    show wpS _ _ _ _ _ _ (SortSt.mk' (kindOf st2) (arrOf st2) (pendingOf st2) mg (failedOf st2))
    generalize SortSt.mk' (kindOf st2) (arrOf st2) (pendingOf st2) mg (failedOf st2) = st3 at gl3
    clear gl2
    refine wpS_atB mb (by lia) fun bx hbx mbx => galB hA (gl3.1.trans hk) mbx ma (by lia) (by lia) fun k hk1 => ?_
    dsimp only
    generalize hkd : na - k = kd
    apply wsh (C := fun (o : Array Keyed) n => Mh a b o n nb ∧ (0 < n ∧ n ≤ a.size) ∧ n + nb + 1 + x + 1 + y ≤ a.size + b.size)
    · intro T
      refine wpS_fi (fun _ => ?_) fun _ => ?_
      · have hc : Mh a b out na nb ∧ (0 < na ∧ na ≤ a.size) ∧ na + nb + 1 + x + 1 + y ≤ a.size + b.size := ⟨hm, ⟨za, zas⟩, zp⟩
        revert hc
        generalize na = n
        generalize out = o
        exact T o n
      · have hm1 := hm.extA hk1
        exact wpS_ifE (fun _ => wpS_pure (fin _ _ _ _ _ _ _ _ gl3 hm1.done)) fun e5 => T _ _ ⟨hm1, ⟨by lia, by lia⟩, by lia⟩
    clear hm za zas zp
    intro o n ⟨hm, ⟨za, zas⟩, zp⟩
    refine wpS_atB mb (by lia) fun bx hbx _ => ?_
    have hm2 := Mh.pushB (ib := nb - 1) (by rw [sub1 (by lia)]; exact hm) hbx
    refine wpS_ifE (fun _ => wpS_pure (fin _ _ _ _ _ _ _ _ gl3 hm2.first)) fun e6 => ?_
    generalize o.push bx = o2 at hm2 ⊢
    generalize hl : nb - 1 = l at hm2 e6 ⊢
    have zb2 : 1 < l ∧ l ≤ b.size := ⟨by lia, by lia⟩
    have zp2 : n + l + 1 + 1 + x + 1 + y ≤ a.size + b.size := by lia
    clear hm zb zp e6 hl mbx hbx zbs
    refine wpS_atB ma (by lia) fun ax hax max => galB hA (gl3.1.trans hk) max mb (by lia) (by lia) fun j hj1 => ?_
    dsimp only
    generalize hjd : l - j = jd
    apply wsh (C := fun (o : Array Keyed) m => Mh a b o n m ∧ (1 < m ∧ m ≤ b.size) ∧ n + m + 1 + 1 + x + 1 + y ≤ a.size + b.size)
    · intro T
      refine wpS_fi (fun _ => ?_) fun _ => ?_
      · have hc : Mh a b o2 n l ∧ (1 < l ∧ l ≤ b.size) ∧ n + l + 1 + 1 + x + 1 + y ≤ a.size + b.size := ⟨hm2, zb2, zp2⟩
        revert hc
        generalize l = m
        generalize o2 = o
        exact T o m
      · have hm3 := hm2.extB hj1
        exact wpS_ifE (fun _ => wpS_pure (fin _ _ _ _ _ _ _ _ gl3 hm3.first)) fun e7 => wpS_ifE (fun _ => wpS_pure (fin _ _ _ _ _ _ _ _ gl3 hm3.done)) fun e9 => T _ _ ⟨hm3, ⟨by lia, by lia⟩, by lia⟩
    clear hm2 zb2 zp2
    intro o m ⟨hm, ⟨zn, zns⟩, zp⟩
    refine wpS_atB ma (by lia) fun ax hax _ => ?_
    have hm4 := Mh.pushA (ia := n - 1) (by rw [sub1 za]; exact hm) hax
    exact wpS_ifE (fun _ => wpS_pure (fin _ _ _ _ _ _ _ _ gl3 hm4.done)) fun e8 => wpS_if (fun _ => wpS_pure (d2 _ _ ⟨gl3, .inr ⟨_, _, _, _, _, _, rfl, hm4, by lia, zn, by lia, zns, by lia⟩⟩)) fun _ => wpS_pure (y2 _ _ ⟨gl3, _, _, _, _, _, _, rfl, hm4, by lia, zn, by lia, zns, by lia⟩)
  · rintro ⟨c1, c2⟩ st2 ⟨gl2, (⟨r, hr, hf⟩ | ⟨na, nb, out, mg, ac, bc, e, hm, za, zb, zas, zbs, zp⟩)⟩
    · cases hr
      exact wpS_pure (d1 _ _ ⟨gl2, r, rfl, hf⟩)
    · cases e
      exact wpS_bind (wpS_modify (wpS_pure (y1 _ _ ⟨gl2, _, _, _, _, rfl, hm, za, zb, zas, zbs, by lia⟩)))
end
end So
namespace So
open PySem PyProof.Rows
theorem wback : ∀ (ms : List Keyed) (arr : Array Keyed) (sa k : Nat), sa + k + ms.length ≤ arr.size →
    ((ms.zipIdx k).foldl (fun a (p : Keyed × Nat) => a.setIfInBounds (sa + p.2) p.1) arr).toList = arr.toList.take (sa + k) ++ ms ++ arr.toList.drop (sa + k + ms.length)
  | [], arr, sa, k, _ => by simp
  | m :: ms, arr, sa, k, h => by
    rw [List.zipIdx_cons, List.foldl_cons]
    rw [List.length_cons] at h
    have ih := wback ms (arr.setIfInBounds (sa + k) m) sa (k + 1) (by rw [Array.size_setIfInBounds]; lia)
    rw [ih, Array.toList_setIfInBounds]
    have hl : sa + k < arr.toList.length := by rw [Array.length_toList]; lia
    rw [List.length_cons, show sa + (k + 1) = sa + k + 1 by lia]
    generalize sa + k = p at hl
    generalize arr.toList = L at hl
    have e : L.set p m = (L.take p ++ [m]) ++ L.drop (p + 1) := by
      rw [List.set_eq_take_append_cons_drop, if_pos hl]; simp
    have ln : (L.take p ++ [m]).length = p + 1 := by rw [List.length_append, List.length_take]; simp; lia
    rw [e, List.take_left' ln, List.drop_append, List.drop_eq_nil_of_le (by lia), List.nil_append, ln, show p + 1 + ms.length - (p + 1) = ms.length by lia, List.drop_drop, List.append_assoc (L.take p), show p + 1 + ms.length = p + (ms.length + 1) by lia]
    simp
abbrev Pm (a b : Array Keyed) : Prop := b.toList.Perm a.toList
theorem Pm.sz {a b : Array Keyed} (h : Pm a b) : b.size = a.size := by have := h.length_eq; simpa using this
theorem Pm.mirror (a : Array Keyed) (i j k : Nat) : Pm a (mirror a i j k) := Array.perm_iff_toList_perm.mp (mirror_perm a i j k)
theorem Pm.bubble (a : Array Keyed) (i j : Nat) : Pm a (bubble a i j) := Array.perm_iff_toList_perm.mp (bubble_perm a i j)
section
variable {prog : Program} {w : World} {A : Around} {E : Value → Shared → Prop} {s : Shared} {M : Keyed → Prop} {κ : SortKind}
theorem wpS_set {σ : Type} {st st2 : σ} {MM : Model} {Q : PUnit → σ → Prop} (h : Q ⟨⟩ st2) : wpS MM A E s (set st2 : StateT σ Sem PUnit) Q st := by
  unfold wpS
  exact wpAny_pure ⟨rfl, h⟩
theorem Pm.m {a b : Array Keyed} (h : Pm a b) (m : ∀ x ∈ a.toList, M x) : ∀ x ∈ b.toList, M x := fun x hx => m x (h.mem_iff.mp hx)
theorem mergeAt_ok {arr : Array Keyed} {n1 n2 p1 p2 mg : Nat} {Q : Bool → SortSt → Prop} (hA : Ask prog w A s M κ) (m : ∀ x ∈ arr.toList, M x) (h1 : 0 < n1) (h2 : 0 < n2) (hN : n1 + n2 = arr.size)
    (h : ∀ (arr' : Array Keyed) (mg' : Nat), Pm arr arr' → Q true (SortSt.mk' κ arr' #[(0, n1 + n2, p1)] mg' none)) : wpS (model prog w) A E s (mergeAt' 0) Q (SortSt.mk' κ arr #[(0, n1, p1), (n1, n2, p2)] mg none) := by
  refine wpS_bind (wpS_get (wpS_bind (wpS_set ?_)))
  have hpend : (((#[(0, n1, p1), (n1, n2, p2)] : Array (Nat × Nat × Nat)).setIfInBounds 0 (0, n1 + n2, p1)).eraseIdxIfInBounds (0 + 1)) = #[(0, n1 + n2, p1)] := by first | rfl | simp [Array.eraseIdxIfInBounds]
  dsimp only
  rw [hpend]
  refine wpS_atB m (by lia) fun b0 hb0 mb0 => galB hA rfl mb0 m h1 (by lia) fun k hk => ?_
  simp only [Nat.zero_add]
  refine wpS_ifE (fun _ => wpS_pure (h arr mg (List.Perm.refl _))) fun e1 => wpS_atB m (by lia) fun al hal mal => galB hA rfl mal m (by lia) (by lia) fun j hj => wpS_ifE (fun _ => wpS_pure (h arr mg (List.Perm.refl _))) fun e2 => ?_
  have sX : (arr.extract k n1).size = n1 - k := by rw [Array.size_extract]; lia
  have sY : (arr.extract n1 (n1 + j)).size = j := by rw [Array.size_extract]; lia
  have eX := ext_list arr k n1
  have eY := ext_list arr n1 (n1 + j)
  rw [show n1 + j - n1 = j by lia] at eY
  have JP : ∀ (r : Array Keyed) (st' : SortSt), Fn (arr.extract k n1) (arr.extract n1 (n1 + j)) r → Gl (SortSt.mk' κ arr #[(0, n1 + n2, p1)] mg none) st' → Q (failedOf st').isNone (SortSt.mk' (kindOf st') (List.foldl (fun a (x : Keyed × Nat) => a.setIfInBounds (k + x.2) x.1) (arrOf st') r.toList.zipIdx) (pendingOf st') (gallopOf st') (failedOf st')) := fun r st' hp gl => by
    have hlen : arr.toList.length = n1 + n2 := by rw [Array.length_toList]; lia
    unfold Fn at hp
    rw [eX, eY] at hp
    have hrl : r.toList.length = n1 - k + j := by rw [hp.length_eq, List.length_append, List.length_take, List.length_drop, List.length_take, List.length_drop]; lia
    have hw := wback r.toList arr k 0 (by lia)
    rw [hrl, Nat.add_zero, show k + (n1 - k + j) = n1 + j by lia] at hw
    rw [gl.1, gl.2.1, gl.2.2.1, gl.2.2.2]
    refine h _ _ ?_
    show List.Perm (List.foldl (fun a (x : Keyed × Nat) => a.setIfInBounds (k + x.2) x.1) arr (r.toList.zipIdx 0)).toList arr.toList
    rw [hw]
    have q0 := List.take_append_drop k arr.toList
    have q1 := dr_cut (l := arr.toList) hk
    have q2 := dr_cut (l := arr.toList) (show n1 ≤ n1 + j by lia)
    rw [show n1 + j - n1 = j by lia] at q2
    rw [q1, q2] at q0
    generalize arr.toList.drop (n1 + j) = D at q0 ⊢
    generalize (arr.toList.drop k).take (n1 - k) = X at q0 hp
    generalize (arr.toList.drop n1).take j = Y at q0 hp
    generalize arr.toList.take k = T at q0 ⊢
    rw [← q0, ← List.append_assoc X, ← List.append_assoc T]
    exact (hp.append_left _).append_right _
  have mX : ∀ x ∈ (arr.extract k n1).toList, M x := fun x hx => by rw [eX] at hx; exact m x (List.mem_of_mem_drop (List.mem_of_mem_take hx))
  have mY : ∀ x ∈ (arr.extract n1 (n1 + j)).toList, M x := fun x hx => by rw [eY] at hx; exact m x (List.mem_of_mem_drop (List.mem_of_mem_take hx))
  exact wpS_if (fun _ => wpS_bind (mergeLo_ok hA rfl mX mY (by lia) (by lia) fun r st' hf gl => wpS_bind (wpS_modify (wpS_bind (wpS_get (wpS_pure (JP r st' hf gl))))))) fun _ => wpS_bind (mergeHi_ok hA rfl mX mY (by lia) (by lia) fun r st' hf gl => wpS_bind (wpS_modify (wpS_bind (wpS_get (wpS_pure (JP r st' hf gl))))))
variable {pd : Array (Nat × Nat × Nat)} {mg : Nat}
theorem ltAtB {δ : Type} {arr : Array Keyed} {i j : Nat} {f : Option Bool → StateT SortSt Sem δ} {Q : δ → SortSt → Prop} (hA : Ask prog w A s M κ) (m : ∀ x ∈ arr.toList, M x) (hi : i < arr.size) (hj : j < arr.size) (h : ∀ b, wpS (model prog w) A E s (f (some b)) Q (SortSt.mk' κ arr pd mg none)) : wpS (model prog w) A E s (ltAt' i j >>= f) Q (SortSt.mk' κ arr pd mg none) := by
  rw [ltAt'_eq]
  exact wpS_bind (wpS_bind (wpS_get (wpS_bind (wpS_at m hi fun x _ mx => wpS_bind (wpS_at m hj fun y _ my => wpS_lt hA rfl mx my h)))))
theorem ascB {δ : Type} {arr : Array Keyed} {a nrem : Nat} {f : Nat → Option (Option Nat) × Nat → StateT SortSt Sem (ForInStep (Option (Option Nat) × Nat))} {g : Option (Option Nat) × Nat → StateT SortSt Sem δ} {Q : δ → SortSt → Prop} (ha : a ≤ nrem)
    (hs : ∀ x n (R : ForInStep (Option (Option Nat) × Nat) → SortSt → Prop), a ≤ n → n < nrem → R (.done (none, n)) (SortSt.mk' κ arr pd mg none) → R (.yield (none, n + 1)) (SortSt.mk' κ arr pd mg none) → wpS (model prog w) A E s (f x (none, n)) R (SortSt.mk' κ arr pd mg none))
    (h : ∀ n, a ≤ n → n ≤ nrem → wpS (model prog w) A E s (g (none, n)) Q (SortSt.mk' κ arr pd mg none)) : wpS (model prog w) A E s (forIn [a:nrem] (none, a) f >>= g) Q (SortSt.mk' κ arr pd mg none) :=
  wpS_forB (fun x c st' => c = (none, x) ∧ st' = SortSt.mk' κ arr pd mg none) (fun c st' => st' = SortSt.mk' κ arr pd mg none ∧ ∃ n, c = (none, n) ∧ a ≤ n ∧ n ≤ nrem) ⟨rfl, rfl⟩
    (fun x c st' R h1 h2 h3 y d => by obtain ⟨rfl, rfl⟩ := h3; exact hs x x R h1 h2 (d _ _ ⟨rfl, x, rfl, h1, Nat.le_of_lt h2⟩) (y _ _ ⟨rfl, rfl⟩)) (fun c st' h3 => by obtain ⟨rfl, rfl⟩ := h3; exact ⟨rfl, _, rfl, Nat.le_max_left _ _, by lia⟩) fun c st' h3 => by obtain ⟨rfl, n, rfl, h1, h2⟩ := h3; exact h n h1 h2
theorem wst {δ : Type} {C : SortSt → Prop} {N : Model} {f : StateT SortSt Sem δ} {Q : δ → SortSt → Prop} {G : Prop} (h : (∀ st, C st → wpS N A E s f Q st) → G) (t : ∀ st, C st → wpS N A E s f Q st) : G := h t
theorem countRun_ok {arr : Array Keyed} {lo nrem : Nat} {Q : Option Nat → SortSt → Prop} (hA : Ask prog w A s M κ) (m : ∀ x ∈ arr.toList, M x) (h1 : 1 ≤ nrem) (hN : lo + nrem ≤ arr.size)
    (h : ∀ (arr' : Array Keyed) (n : Nat), 1 ≤ n → n ≤ nrem → Pm arr arr' → Q (some n) (SortSt.mk' κ arr' pd mg none)) : wpS (model prog w) A E s (countRun' lo nrem) Q (SortSt.mk' κ arr pd mg none) := by
  have asc : ∀ (arr1 : Array Keyed) (n : Nat) (R : ForInStep (Option (Option Nat) × Nat) → SortSt → Prop), Pm arr arr1 → 1 ≤ n → n < nrem → R (.done (none, n)) (SortSt.mk' κ arr1 pd mg none) → R (.yield (none, n + 1)) (SortSt.mk' κ arr1 pd mg none) →
      wpS (model prog w) A E s (do
        match ← ltAt' (lo + n) (lo + n - 1) with
        | some smaller => if smaller = true then pure (.done (none, n)) else pure (.yield (none, n + 1))
        | x => pure (.done (some none, n))) R (SortSt.mk' κ arr1 pd mg none) := fun arr1 n R hp a1 a2 r1 r2 => by
    have z := hp.sz
    exact ltAtB hA (hp.m m) (by lia) (by lia) fun b => wpS_if (fun _ => wpS_pure r1) fun _ => wpS_pure r2
  refine ascB h1 (fun x n R a1 a2 r1 r2 => asc arr n R (List.Perm.refl _) a1 a2 r1 r2) fun n hn1 hn2 => ?_
  dsimp only
  refine wpS_ifE (fun _ => wpS_pure (h arr n hn1 hn2 (List.Perm.refl _))) fun e1 => ?_
  have hn2' : n + 1 ≤ nrem := by lia
  clear hn2 e1
  apply wst (C := fun st => ∃ a1, st = SortSt.mk' κ a1 pd mg none ∧ Pm arr a1)
  · intro T
    refine wpS_fi (fun _ => T _ ⟨arr, rfl, List.Perm.refl _⟩) fun _ => ltAtB hA m (by lia) (by lia) fun b => ?_
    exact wpS_if (fun _ => wpS_pure (h arr n hn1 (by lia) (List.Perm.refl _))) fun _ => wpS_bind (wpS_modify (T _ ⟨_, rfl, Pm.mirror _ _ _ _⟩))
  rintro _ ⟨a1, rfl, p1⟩
  refine wpS_bind (wpS_lift (wpAny_rule ⟨rfl, ?_⟩))
  refine wpS_forB (fun x c st' => ∃ a2 q, c = (none, x, q) ∧ st' = SortSt.mk' κ a2 pd mg none ∧ Pm arr a2) (fun c st' => ∃ a2 n2 q, c = (none, n2, q) ∧ st' = SortSt.mk' κ a2 pd mg none ∧ Pm arr a2 ∧ n < n2 ∧ n2 ≤ nrem) ⟨a1, 0, rfl, rfl, p1⟩ ?_ ?_ ?_
  · rintro x c _ R hx1 hx2 ⟨a2, q, rfl, rfl, p2⟩ y d
    have z := p2.sz
    dsimp only
    refine ltAtB hA (p2.m m) (by lia) (by lia) fun b => wpS_if (fun _ => wpS_if (fun _ => wpS_bind (wpS_modify (wpS_pure (y _ _ ⟨_, _, rfl, rfl, (Pm.mirror _ _ _ _).trans p2⟩)))) fun _ => wpS_pure (y _ _ ⟨_, _, rfl, rfl, p2⟩)) fun _ => ltAtB hA (p2.m m) (by lia) (by lia) fun b => ?_
    exact wpS_if (fun _ => wpS_pure (d _ _ ⟨_, _, _, rfl, rfl, p2, hx1, Nat.le_of_lt hx2⟩)) fun _ => wpS_pure (y _ _ ⟨_, _, rfl, rfl, p2⟩)
  · rintro c st' ⟨a2, q, rfl, rfl, p2⟩
    exact ⟨_, _, _, rfl, rfl, p2, by lia, by lia⟩
  · rintro c st' ⟨a2, n2, q, rfl, rfl, p2, hn3, hn4⟩
    dsimp only
    apply wst (C := fun st => ∃ a1, st = SortSt.mk' κ a1 pd mg none ∧ Pm arr a1)
    · intro T
      exact wpS_fi (fun _ => T _ ⟨a2, rfl, p2⟩) fun _ => wpS_bind (wpS_modify (T _ ⟨_, rfl, (Pm.mirror _ _ _ _).trans p2⟩))
    rintro _ ⟨a3, rfl, p3⟩
    refine wpS_bind (wpS_modify ?_)
    have p4 := (Pm.mirror a3 lo (lo + n2) ((lo + n2 - lo) / 2)).trans p3
    exact ascB hn4 (fun x n R a1 a2 r1 r2 => asc _ n R p4 (by lia) a2 r1 r2) fun n5 h5 h6 => wpS_pure (h _ n5 (by lia) h6 p4)
theorem binarySort_ok {arr : Array Keyed} {lo n ok : Nat} {Q : Bool → SortSt → Prop} (hA : Ask prog w A s M κ) (m : ∀ x ∈ arr.toList, M x) (h1 : 1 ≤ ok) (h2 : ok ≤ n) (hN : lo + n ≤ arr.size)
    (h : ∀ (arr' : Array Keyed), Pm arr arr' → Q true (SortSt.mk' κ arr' pd mg none)) : wpS (model prog w) A E s (binarySort' lo n ok) Q (SortSt.mk' κ arr pd mg none) := by
  refine wpS_forB (fun k c st' => c = (none, ()) ∧ ∃ a2, st' = SortSt.mk' κ a2 pd mg none ∧ Pm arr a2) (fun c st' => c = (none, ()) ∧ ∃ a2, st' = SortSt.mk' κ a2 pd mg none ∧ Pm arr a2) ⟨rfl, arr, rfl, List.Perm.refl _⟩ ?_ (fun _ _ z => z) ?_
  · rintro k c st' R hk1 hk2 ⟨rfl, a2, rfl, p2⟩ y d
    have z := p2.sz
    refine wpS_forB (fun x c st' => st' = SortSt.mk' κ a2 pd mg none ∧ ∃ l r, c = (none, l, r) ∧ r ≤ k) (fun c st' => st' = SortSt.mk' κ a2 pd mg none ∧ ∃ l r, c = (none, l, r)) ⟨rfl, 0, k, rfl, Nat.le_refl _⟩ ?_ (fun c st' z => ⟨z.1, let ⟨l, r, e, _⟩ := z.2; ⟨l, r, e⟩⟩) ?_
    · rintro x c st' R2 _ hx ⟨rfl, l, r, rfl, hr⟩ y2 d2
      dsimp only
      refine wpS_if (fun _ => wpS_pure (d2 _ _ ⟨rfl, l, r, rfl⟩)) fun _ => ltAtB hA (p2.m m) (by lia) (by lia) fun b => ?_
      exact wpS_if (fun _ => wpS_pure (y2 _ _ ⟨rfl, _, _, rfl, by lia⟩)) fun _ => wpS_pure (y2 _ _ ⟨rfl, _, _, rfl, hr⟩)
    · rintro c st' ⟨rfl, l, r, rfl⟩
      exact wpS_bind (wpS_modify (wpS_pure (y _ _ ⟨rfl, _, rfl, (Pm.bubble _ _ _).trans p2⟩)))
  · rintro c st' ⟨rfl, a2, rfl, p2⟩
    exact wpS_pure (h a2 p2)
end
end So
namespace So
open PySem PyProof.Rows PySem.Spec L2
theorem minrun_of {N : Nat} (h1 : 2 ≤ N) (h2 : N < 128) : ∃ mr, minRun' N N 0 = mr ∧ 1 ≤ mr ∧ mr ≤ N ∧ N ≤ 2 * mr := by
  obtain ⟨f, hf⟩ : ∃ f, N = f + 2 := ⟨N - 2, by lia⟩
  refine ⟨_, rfl, ?_⟩
  have : minRun' N N 0 = minRun' (f + 2) N 0 := by rw [← hf]
  rw [this, minRun'_succ]
  split
  · lia
  · rw [minRun'_succ, if_pos (by lia)]; lia
section
variable {prog : Program} {w : World} {A : Around} {E : Value → Shared → Prop} {s : Shared} {M : Keyed → Prop} {κ : SortKind}
theorem wsv {α δ : Type} {C : α → SortSt → Prop} {N : Model} {f : α → StateT SortSt Sem δ} {Q : δ → SortSt → Prop} {G : Prop} (h : (∀ x st, C x st → wpS N A E s (f x) Q st) → G) (t : ∀ x st, C x st → wpS N A E s (f x) Q st) : G := h t
theorem sortRuns_ok {arr : Array Keyed} {Q : Unit → SortSt → Prop} (hA : Ask prog w A s M κ) (m : ∀ x ∈ arr.toList, M x) (h2 : 2 ≤ arr.size) (h128 : arr.size < 128)
    (h : ∀ st', Pm arr (arrOf st') → failedOf st' = none → Q () st') : wpS (model prog w) A E s sortRuns' Q (SortSt.mk' κ arr #[] 7 none) := by
  obtain ⟨mr, hmr, m1, m2, m3⟩ := minrun_of h2 h128
  rw [sortRuns'_eq]
  refine wpS_bind (wpS_get ?_)
  dsimp only
  obtain ⟨N, eN⟩ : ∃ N, N = arr.size := ⟨_, rfl⟩
  simp only [← eN] at hmr h2 m2 m3 ⊢
  simp only [hmr]
  clear hmr h128
  refine wpS_forB
    (fun x c st' => (x = 0 ∧ c = (none, 0) ∧ st' = SortSt.mk' κ arr #[] 7 none) ∨ (1 ≤ x ∧ ∃ n a2, c = (none, n) ∧ st' = SortSt.mk' κ a2 #[(0, n, 0)] 7 none ∧ mr ≤ n ∧ n ≤ N ∧ Pm arr a2 ∧ (n = N ∨ x = 1)) ∨ (2 ≤ x ∧ ∃ n pw a2, c = (none, N) ∧ st' = SortSt.mk' κ a2 #[(0, n, pw), (n, N - n, 0)] 7 none ∧ mr ≤ n ∧ n < N ∧ Pm arr a2))
    (fun c st' => c = (none, N) ∧ ((∃ a2, st' = SortSt.mk' κ a2 #[(0, N, 0)] 7 none ∧ Pm arr a2) ∨ (∃ n pw a2, st' = SortSt.mk' κ a2 #[(0, n, pw), (n, N - n, 0)] 7 none ∧ mr ≤ n ∧ n < N ∧ Pm arr a2))) (.inl ⟨rfl, rfl, rfl⟩) ?_ ?_ ?_
  · rintro x c st' R _ hx hst y d
    have k1 : ∀ lo nn a2, Pm arr a2 → lo + nn = N → 1 ≤ nn → ∀ {δ : Type} {Q' : δ → SortSt → Prop} {pd} {g : Option Nat → StateT SortSt Sem δ}, (∀ n a3, 1 ≤ n → n ≤ nn → Pm arr a3 → wpS (model prog w) A E s (g (some n)) Q' (SortSt.mk' κ a3 pd 7 none)) → wpS (model prog w) A E s (countRun' lo nn >>= g) Q' (SortSt.mk' κ a2 pd 7 none) := fun lo nn a2 p2 e hn => by
      intro δ Q' pd g hg
      have z := p2.sz
      exact wpS_bind (countRun_ok hA (p2.m m) hn (by lia) fun a3 n n1 n2 p3 => hg n a3 n1 n2 (p3.trans p2))
    have k2 : ∀ lo n nn a2, Pm arr a2 → lo + nn ≤ N → 1 ≤ n → n ≤ nn → ∀ {δ : Type} {Q' : δ → SortSt → Prop} {pd} {g : Bool → StateT SortSt Sem δ}, (∀ a3, Pm arr a3 → wpS (model prog w) A E s (g true) Q' (SortSt.mk' κ a3 pd 7 none)) → wpS (model prog w) A E s (binarySort' lo nn n >>= g) Q' (SortSt.mk' κ a2 pd 7 none) := fun lo n nn a2 p2 e n1 n2 => by
      intro δ Q' pd g hg
      have z := p2.sz
      exact wpS_bind (binarySort_ok hA (p2.m m) n1 n2 (by lia) fun a3 p3 => hg a3 (p3.trans p2))
    rcases hst with ⟨rfl, rfl, rfl⟩ | ⟨hx1, n, a2, rfl, rfl, hn1, hn2, p2, hnx⟩ | ⟨hx2, n, pw, a2, rfl, rfl, hn1, hn2, p2⟩
    · dsimp only
      rw [if_neg (by lia)]
      simp only [Nat.sub_zero, Nat.zero_add]
      refine k1 0 N arr (List.Perm.refl _) (by lia) (by lia) fun n a3 n1 n2 p3 => ?_
      dsimp only
      apply wsv (C := fun n st => ∃ a4, st = SortSt.mk' κ a4 #[] 7 none ∧ mr ≤ n ∧ n ≤ N ∧ Pm arr a4)
      · intro T
        refine wpS_fi (fun hl => ?_) fun _ => wpS_bind (wpS_lift (wpAny_rule ⟨rfl, k2 0 n _ a3 p3 (by lia) n1 (by lia) fun a4 p4 => ?_⟩))
        · have hc : mr ≤ n ∧ n ≤ N := ⟨by lia, n2⟩
          revert hc
          generalize n = k
          exact fun hc => T k _ ⟨a3, rfl, hc.1, hc.2, p3⟩
        · exact T _ _ ⟨a4, rfl, by lia, by lia, p4⟩
      rintro n _ ⟨a4, rfl, n3, n4, p4⟩
      refine wpS_bind (wpS_get ?_)
      have hb : (pendingOf (SortSt.mk' κ a4 #[] 7 none)).back? = none := rfl
      rw [hb]
      exact wpS_bind (wpS_modify (wpS_pure (y _ _ (.inr (.inl ⟨by lia, n, a4, rfl, rfl, n3, n4, p4, .inr rfl⟩)))))
    · dsimp only
      refine wpS_if (fun hnN => wpS_pure (d _ _ ?_)) fun hnN => ?_
      · have e : n = N := by lia
        subst e
        exact ⟨rfl, .inl ⟨a2, rfl, p2⟩⟩
      refine k1 n (N - n) a2 p2 (by lia) (by lia) fun n5 a3 n1 n2 p3 => ?_
      dsimp only
      apply wsv (C := fun k st => ∃ a4, st = SortSt.mk' κ a4 #[(0, n, 0)] 7 none ∧ k = N - n ∧ Pm arr a4)
      · intro T
        refine wpS_fi (fun hl => ?_) fun _ => wpS_bind (wpS_lift (wpAny_rule ⟨rfl, k2 n n5 _ a3 p3 (by lia) n1 (by lia) fun a4 p4 => ?_⟩))
        · have hc : n5 = N - n := by lia
          revert hc
          generalize n5 = k
          exact fun hc => T k _ ⟨a3, rfl, hc, p3⟩
        · exact T _ _ ⟨a4, rfl, by lia, p4⟩
      rintro _ _ ⟨a4, rfl, rfl, p4⟩
      refine wpS_bind (wpS_get ?_)
      have hb : (pendingOf (SortSt.mk' κ a4 #[(0, n, 0)] 7 none)).back? = some (0, n, 0) := rfl
      rw [hb]
      dsimp only
      refine wpS_forB (fun _ c st' => c = (none, ()) ∧ st' = SortSt.mk' κ a4 #[(0, n, 0)] 7 none) (fun c st' => c = (none, ()) ∧ st' = SortSt.mk' κ a4 #[(0, n, 0)] 7 none) ⟨rfl, rfl⟩ ?_ (fun _ _ z => z) ?_
      · rintro _ c st' R _ _ ⟨rfl, rfl⟩ _ d
        refine wpS_bind (wpS_get ?_)
        have hp1 : ¬ (pendingOf (SortSt.mk' κ a4 #[(0, n, 0)] 7 none)).size > 1 := by show ¬ (1 : Nat) > 1; decide
        rw [if_neg hp1]
        exact wpS_pure (d _ _ ⟨rfl, rfl⟩)
      · rintro c st' ⟨rfl, rfl⟩
        refine wpS_bind (wpS_modify (wpS_bind (wpS_modify (wpS_pure (y _ _ (.inr (.inr ⟨by lia, n, power' N (2 * 0 + n) (2 * 0 + n + n + (N - n)) N, a4, ?_, ?_, hn1, by lia, p4⟩)))))))
        · first | rfl | (congr 1; lia)
        · first | rfl | (congr 1; try simp; try lia)
    · dsimp only
      rw [if_pos (Nat.le_refl _)]
      exact wpS_pure (d _ _ ⟨rfl, .inr ⟨n, pw, a2, rfl, hn1, hn2, p2⟩⟩)
  · rintro c st' (⟨hx, rfl, rfl⟩ | ⟨hx1, n, a2, rfl, rfl, hn1, hn2, p2, hnx⟩ | ⟨hx2, n, pw, a2, rfl, rfl, hn1, hn2, p2⟩)
    · lia
    · have e : n = N := by lia
      subst e
      exact ⟨rfl, .inl ⟨a2, rfl, p2⟩⟩
    · exact ⟨rfl, .inr ⟨n, pw, a2, rfl, hn1, hn2, p2⟩⟩
  · rintro c st' ⟨rfl, hst⟩
    dsimp only
    refine wpS_forB (fun x c st' => c = (none, ()) ∧ ((∃ a2 mg p, st' = SortSt.mk' κ a2 #[(0, N, p)] mg none ∧ Pm arr a2) ∨ (x = 0 ∧ ∃ n pw a2, st' = SortSt.mk' κ a2 #[(0, n, pw), (n, N - n, 0)] 7 none ∧ mr ≤ n ∧ n < N ∧ Pm arr a2))) (fun c st' => c = (none, ()) ∧ failedOf st' = none ∧ Pm arr (arrOf st')) ?_ ?_ ?_ ?_
    · refine ⟨rfl, ?_⟩
      rcases hst with ⟨a2, rfl, p2⟩ | ⟨n, pw, a2, r⟩
      · exact .inl ⟨a2, 7, 0, rfl, p2⟩
      · exact .inr ⟨rfl, n, pw, a2, r⟩
    · rintro x c st2 R _ hx ⟨rfl, (⟨a2, mg, p, rfl, p2⟩ | ⟨rfl, n, pw, a2, rfl, hn1, hn2, p2⟩)⟩ y d
      · refine wpS_bind (wpS_get ?_)
        rw [if_pos (by show (1 : Nat) ≤ 1; exact Nat.le_refl 1)]
        exact wpS_pure (d _ _ ⟨rfl, rfl, p2⟩)
      · have z2 := p2.sz
        refine wpS_bind (wpS_get ?_)
        rw [if_neg (by show ¬ (2 : Nat) ≤ 1; decide)]
        refine wpS_bind (mergeAt_ok hA (p2.m m) (by lia) (by lia) (by lia) fun a3 mg' p3 => ?_)
        simp only [Bool.not_true, Bool.false_eq_true, if_false]
        refine wpS_pure (y _ _ ⟨rfl, .inl ⟨a3, mg', pw, ?_, p3.trans p2⟩⟩)
        rw [show n + (N - n) = N by lia]
    · rintro c st2 ⟨rfl, (⟨a2, mg, p, rfl, p2⟩ | ⟨hx, _⟩)⟩
      · exact ⟨rfl, rfl, p2⟩
      · lia
    · rintro c st2 ⟨rfl, hf, hp⟩
      exact wpS_pure (h st2 hp hf)
theorem sort_rawP {B : Addr} {vs : List Value} {c : Nat} {P : PySem.Fin → Shared → Prop} (hB : s.heap.get? B = some (seqObj "list" vs.toArray c)) (h128 : vs.length < 128)
    (hk : 2 ≤ vs.length → ∀ h1, (∀ b o, b ≠ B → s.heap.get? b = some o → h1.get? b = some o) →
      wpAny (model prog w) A (keyKind' vs.toArray) (fun κ s' => s' = { s with heap := h1 } ∧ Ask prog w A { s with heap := h1 } (fun x => x.1 ∈ vs) κ) (fun _ _ => False) { s with heap := h1 })
    (hP : ∀ h' vs' c', vs'.Perm vs → (∀ b o, b ≠ B → s.heap.get? b = some o → h'.get? b = some o) → h'.get? B = some (seqObj "list" (List.toArray vs') c') → P (.done (.ret .none)) { s with heap := h' }) : wpAny (model prog w) A (Builtin.«list.sort» ⟨[.ref B], []⟩) P E s := by
  obtain ⟨e1, hB1⟩ : ∃ e1, (s.heap.update B (Obj.mapSeq fun _ => (#[] : Array Value))).get? B = some (seqObj "list" #[] e1) := ⟨_, get?_update_seq hB fun _ => #[]⟩
  have b1 := Heap.SameBut.update s.heap B (Obj.mapSeq fun _ => (#[] : Array Value))
  obtain ⟨h3, eh3⟩ : ∃ h3, h3 = ((s.heap.update B (Obj.mapSeq fun _ => (#[] : Array Value))).push (seqObj "tuple" vs.toArray 0)).push (seqObj "list" #[] 0) := ⟨_, rfl⟩
  have hB3 : h3.get? B = some (seqObj "list" #[] e1) := by rw [eh3]; exact Heap.get?_push_of_some _ (Heap.get?_push_of_some _ hB1)
  have k3 : ∀ b o, b ≠ B → s.heap.get? b = some o → h3.get? b = some o := fun b o hb q => by rw [eh3]; exact Heap.get?_push_of_some _ (Heap.get?_push_of_some _ (b1.extBut b o hb q))
  rw [list_sort_plain]
  refine wpAny_bind (listItems_at hB rfl (wpAny_bind (listUpdate_at hB rfl ?_ (by rw [List.size_toArray, sizeLine_eq]; lia) (Nat.zero_le _))))
  refine wpAny_bind (seqEpoch_at hB1 rfl (wpAny_bind (wpAny_newTuple ?_ (by show vs.length ≤ _; rw [sizeLine_eq]; lia))))
  refine wpAny_bind (wpAny_newList (wpAny_holding ?_) (Nat.zero_le _))
  show wpAny (model prog w) A _ P E { s with heap := ((s.heap.update B (Obj.mapSeq fun _ => (#[] : Array Value))).push (seqObj "tuple" vs.toArray 0)).push (seqObj "list" #[] 0) }
  rw [← eh3]
  dsimp only
  have ez : (vs.toArray.zip vs.toArray).toList = vs.map fun v => (v, v) := by
    rw [Array.toList_zip]
    show vs.zip vs = _
    clear hk hP hB h128 hB1 b1 eh3 hB3 k3
    induction vs with
    | nil => rfl
    | cons v vs ih => rw [List.zip_cons_cons, ih]; rfl
  have fin : ∀ (st : SortSt), (arrOf st).toList.Perm (vs.map fun v => (v, v)) → failedOf st = none →
      wpAny (model prog w) A (do
        let sorted := (arrOf st).map (·.2)
        let touched := (← seqEpoch B) != e1
        Builtin.List.listUpdate (.ref B) fun _ => sorted
        if let some e := failedOf st then rule "list.sort.comparison-raised"; throw e
        if touched then rule "list.sort.modified"; raiseError "ValueError" "list modified during sort"
        ret .none) P E { s with heap := h3 } := fun st hp hf => by
    have hp2 : ((arrOf st).toList.map (·.2)).Perm vs := by
      have := hp.map (·.2)
      rw [List.map_map] at this
      have e : vs.map ((fun x : Keyed => x.2) ∘ fun v => (v, v)) = vs := List.map_id vs
      rw [e] at this
      exact this
    have ho : (arrOf st).map (·.2) = List.toArray ((arrOf st).toList.map (·.2)) := by
      apply Array.toList_inj.mp
      simp
    generalize (arrOf st).toList.map (·.2) = out at hp2 ho
    rw [ho]
    have sz : (List.toArray out).size ≤ sizeLine := by rw [List.size_toArray, hp2.length_eq, sizeLine_eq]; lia
    obtain ⟨c2, hc2⟩ : ∃ c2, (h3.update B (Obj.mapSeq fun _ => List.toArray out)).get? B = some (seqObj "list" (List.toArray out) c2) := ⟨_, get?_update_seq hB3 fun _ => List.toArray out⟩
    refine wpAny_bind (seqEpoch_at hB3 rfl (wpAny_bind (listUpdate_at hB3 rfl ?_ (Nat.zero_le _) (Nat.le_trans sz (Nat.le_succ _)))))
    rw [hf]
    simp only [bne_self_eq_false, Bool.false_eq_true, if_false]
    exact wpAny_pure (hP _ out c2 hp2 (fun b o hb q => (Heap.SameBut.update h3 B _).extBut b o hb (k3 b o hb q)) hc2)
  by_cases h2 : 2 ≤ vs.length
  · have hn2 : ¬ vs.toArray.size < 2 := by rw [List.size_toArray]; lia
    rw [if_neg hn2, if_neg hn2]
    refine wpAny_bind (wpAny_mono (hk h2 h3 k3) (fun κ s0 hh => ?_) fun _ _ x => x.elim)
    obtain ⟨rfl, ask⟩ := hh
    refine wpAny_bind (wpAny_mono (sortRuns_ok (M := fun x => x.1 ∈ vs) (s := { s with heap := h3 }) (Q := fun _ st' => (arrOf st').toList.Perm (vs.map fun v => (v, v)) ∧ failedOf st' = none) ask (fun x hx => ?_) (by simp; lia) (by simpa using h128) (fun st' a1 a2 => ⟨by unfold Pm at a1; rw [ez] at a1; exact a1, a2⟩)) ?_ fun _ _ e => e)
    · rw [ez] at hx
      obtain ⟨v, hv, rfl⟩ := List.mem_map.mp hx
      exact hv
    rintro ⟨⟨⟩, st'⟩ s' ⟨rfl, hp, hf⟩
    exact fin st' hp hf
  · have hn2 : vs.toArray.size < 2 := by rw [List.size_toArray]; lia
    rw [if_pos hn2, if_pos hn2]
    refine wpAny_bind (wpAny_pure (wpAny_bind ?_))
    rw [StateT.run_pure]
    exact wpAny_pure (fin _ (by rw [← ez]) rfl)
end
end So
namespace L2
open PySem PySem.Spec PyProof.Rows HT
theorem xj:∀a:List Int,ah a a=false
 | []=>rfl
 | x::a=>by rw[jS,ZB rfl];exact xj a
section
variable {prog:j0}{w:w5}{A:A3}{E:b9->d9->Prop}{s:d9}
def bZ (h:Heap) (v:b9) (ns:List Int):Prop:=∃(a:Addr) (b:List b9),v=.ref a/\Uv h a b.toArray/\bH b ns
theorem xo:∀{us:List b9}{ns:List Int}{j:Nat}{v:b9},bH us ns->us[j]?=some v->∃t,v=nv (ns.getD j 0) t
 | _,_,0,v,.cons _ _ _,e=>by cases e;exact⟨_,rfl⟩
 | _,_,j+1,v,.cons _ _ t,e=>by obtain⟨a,h⟩:=xo (j:=j) t (by simpa using e);exact⟨a,by rw[h];rfl⟩
theorem xn:∀{us:List b9}{ns:List Int},bH us ns->us.length=ns.length
 | _,_,.nil=>rfl
 | _,_,.cons _ _ t=>by rw[n5,n5,xn t]
theorem Dl:∀{us:List b9}{ns ms:List Int},bH us ns->bH us ms->ns=ms
 | _,_,_,.nil,.nil=>rfl
 | _,_,_,.cons _ _ t,.cons _ _ u=>by rw[Dl t u]
variable {ns ms:List Int}
def bZ.eq {p q:b9}(d:bZ s.heap p ns) (f:bZ s.heap q ms) (D:A.units<fW) (g:ns≠ms):oS A s p q false:=by
 obtain⟨a,h,rfl,⟨H,C,n,I,k⟩,o⟩:=d;obtain⟨b,l,rfl,⟨ob,r,v,J,c⟩,x⟩:=f;have l1:=xn o;have l2:=xn x;by_cases m:a=b
 .subst m;rw[C] at r;cases r;rw[k] at c;injection c with e1 _
  have e2:h=l:=by simpa using e1
  subst e2;exact Zy (Dl o x) g
 .have:=SeqAt.EqAt.of_refs m (SeqAt.RcAt.tuples (A:=A) (e:=λj=>decide (ns.getD j 0=ms.getD j 0)) ⟨H,C,n,I,k⟩ ⟨ob,r,v,J,c⟩ D λj d f=>by
   have y:j<h.length:=by simpa using d
   have B:j<l.length:=by simpa using f
   obtain⟨t,K⟩:=xo o (j4 y);obtain⟨u,L⟩:=xo x (j4 B);have e1:h.toArray[j]=.int (ns.getD j 0) t:=by rw[FP];exact K
   have e2:l.toArray[j]=.int (ms.getD j 0) u:=by rw[FP];exact L
   rw[e1,e2];have e3:decide (ns.getD j 0=ms.getD j 0)=(ns.getD j 0 == ms.getD j 0):=by rw[bQ];simp
   rw[e3];exact mj _ t _ u)
  have e:((P0 (min h.toArray.size l.toArray.size)).all (λj=>decide (ns.getD j 0=ms.getD j 0))&&h.toArray.size == l.toArray.size)=false:=by rw[Bool.eq_false_iff];intro z;rw[A4,kF,Zs,A2,A2] at z;refine g (Nt (by lia) λi d f=>?_);have:=Zx (z.1 i (ZT.mpr (by lia)));rw[E5,E5,j4 d,j4 f] at this;exact this
  rw[e] at this;exact this
def bZ.lt {p q:b9}(c:bZ s.heap p ns) (d:bZ s.heap q ms) (e:A.units<fW) {Q:b9->d9->Prop} (f:Q (.bool (ah ns ms)) s):j8 (n6 prog w) A (P7 .Lt p q) Q E s:=by obtain⟨a,k,rfl,g,h⟩:=c;obtain⟨b,l,rfl,i,j⟩:=d;exact HT.BG g i h j e f
def Iv {x y:Addr}{c d e g:b9}{n k:Nat}{ox h:Obj}{Q:Bool->d9->Prop} (m:s.heap.get? x=some ox) (o:ox.data=.seq #[c,e] n) (p:s.heap.get? y=some h) (q:h.data=.seq #[d,g] k)
  (i:bZ s.heap c ns) (j:bZ s.heap d ms) (a:ns=ms->c=d/\e=g) (l:A.units<fW) (f:Q (ah ns ms) s):j8 (n6 prog w) A (keyLt' (tuples' false) (.ref x) (.ref y)) Q E s:=by
 refine W.kat_lt m o p q ?_;by_cases b:ns=ms
 .obtain⟨rfl,rfl⟩:=a b;rw[b,xj] at f;refine Ol (qc c prog w _ _ (W.kat_yes (Ol (qc e prog w _ _ (W.kat_yes (W.kat_nil ?_))))));exact f
 .refine Ol (bZ.eq (A:=A) i j l b prog w _ _ (W.kat_no ?_));rw[X5];exact W.kat_one c d (bZ.lt i j l f)
end
def kz (k:List O0):List Int:=k.map λz=>match z with | .inl i=>i | .inr _=>0
def Dh (ns:List Int):kz (ns.map cx)=ns:=by unfold kz;rw[R8];exact FO _
section
variable {H:Hp}
def EU {P:j0}{w:w5}{h:Heap}{q:Addr}{ms:List Int} (ok:dQ P w H h) (e:H q=some (.tup (ms.map V.int))):bZ h (.ref q) ms:=by
 obtain⟨_,a,r,t⟩:=(show O4 P w H h q (.tup (ms.map V.int)) from ok q _ e)
 exact⟨q,a,rfl,t,tQ r⟩
def bZ.keep {h h':Heap}{v:b9}{ns:List Int} (x:bZ h v ns) (k:∀a o,v=.ref a->h.get? a=some o->h'.get? a=some o):bZ h' v ns:=by obtain⟨a,b,e,⟨o,c,r⟩,i⟩:=x;exact⟨a,b,e,⟨o,k a o e c,r⟩,i⟩
end
section
variable {X:Cx}{H:Hp}
end
end L2
namespace L2
open PySem PySem.Spec PyProof.Rows
section
variable {X:Cx}
def Pz:List V->Hp->VK->Prop:=λi H Q=>∃v d c,i=[.ref v]/\H v=some (qF v d)/\H d=some (.dT c)/\c.length<128 /\
 (∀g∈c,(∃ns:List Int,g.1=ns.map cx)/\∃(q:Addr) (j:List Int),g.2=.ref q/\H q=some (.tup (j.map V.int)))/\(c.map λt=>kz t.1).Nodup /\
 ∀(D:Addr) (h:List V) (e:List (List O0 × V)) (f:Hp),H D=none->e.Perm c->u7 H f->f D=some (.lst h)->QW f e h->Q (.ref D) f
def BZ (hc:X.calm=true) (hu:X.A.units+64<fW):cN X (.builtin "sorted") Pz:=by
 intro c3 s σ H xs us Q I rr h;obtain⟨v,d,c,rfl,hv,hd,al,am,Z,q⟩:=h;cases rr with
 | cons r1 rr =>
  cases rr;cases r1;have hh:X.A.handled=none:=I.ok.hd hc;obtain⟨an,_,_⟩:=(show O4 X.prog X.w H s.heap v (qF v d) from I.hok v _ hv)
  obtain⟨_,_,xs,a0,o,B,ep,ho,c4,ap,a1,_⟩:=(show O4 X.prog X.w H s.heap d (.dT c) from I.hok d _ hd)
  have a2:B.size=c.length:=by rw[<- u9,a1,d8];exact(fG a0).symm
  have a3:∀(j:Nat) (k:List O0) (x:V),c[j]?=some (k,x)->∃(l:Addr) (g:J2),B[j]?=some g/\g.key=.ref l/\H l=some (.tup (k.map kV))/\K3 x g.val:=λj k x m=>by obtain⟨qq,hq,f1,f2,f3⟩:=Paired.get a0 m;refine⟨qq.2.1,RL (dw (P9 X.prog X.w)) qq,?_,rfl,f2,f3⟩;rw[<- G7,a1,w6,hq];rfl
  have sl:j6=j6:=rfl;refine xQ kind_sorted plain_sorted entry_sorted (args_sorted1 _) ?_;unfold iw.«sorted»;refine b7 (m:=checkCount "sorted" 1 1 _) (f9 ?_);refine b7 (uI (A:=X.A.in1) hh ⟨_,an,rfl,rfl⟩ ho ap (by rw[a2,R7];lia) λn tk as N k1 hl a4 ar hG=>?_);have O:as.length=c.length:=by rw[hl,a2]
  refine b7 (lU ?_ (by rw[d8,O,R7];lia));have hB:(n.push (Y2 "list" (as.map r6).toArray 0)).get? n.objs.size=some (Y2 "list" (as.map r6).toArray 0):=j7 _ rfl;have k2:∀b o,s.heap.get? b=some o->(n.push (Y2 "list" (as.map r6).toArray 0)).get? b=some o:=λb o e=>f6 _ (k1 b o e);have a5:∀a∈as,a<n.objs.size:=λa C=>by obtain⟨j,m⟩:=ZV.mp C;obtain⟨g,_,e2⟩:=hG j a m;exact i5 e2
  show j8 _ _ _ _ _ { s with heap:=n.push (Y2 "list" (as.map r6).toArray 0),toks:=tk };have nB:∀b,b<n.objs.size->b≠n.objs.size:=λb hb=>y7 hb;refine b7 (F2 (G1 slot_list_sort ⟨_,hB,rfl⟩ entry_list_sort ?body (args_list_sort _)));have P:∀(j:Nat) (a:Addr),as[j]?=some a->∃(g:J2) (k:List O0) (x:V) (l:Addr),B[j]?=some g/\c[j]?=some (k,x)/\n.get? a=some { cls:=.type "tuple",data:=.seq #[g.key,g.val] }/\g.key=.ref l/\H l=some (.tup (k.map kV))/\K3 x g.val/\bZ s.heap g.key (kz k)/\FA s.heap g.val:=λj a C=>by
   obtain⟨g,e1,e2⟩:=hG j a C;have m:j<c.length:=by rw[<- O];exact(ZW.mp C).1
   obtain⟨l,b0,e3,e4,e5,e6⟩:=a3 j (c[j]).1 (c[j]).2 (j4 m);rw[e1] at e3;cases e3;obtain⟨⟨ns,R⟩,qa,ms,a6,hq⟩:=am c[j] (af m);refine⟨g,_,_,l,e1,j4 m,e2,e4,e5,e6,?_,?_⟩
   .rw[e4];rw[R,My] at e5;have a7:(c.get ⟨j,m⟩).1=ns.map cx:=R;show bZ _ _ (kz (c.get ⟨j,m⟩).1);rw[a7,Dh];exact EU I.hok e5
   .rw[a6] at e6;rw[show g.val=.ref qa from e6];exact MD I.hok hq
  have a8:∀b o,s.heap.get? b=some o->b≠n.objs.size:=λb o e=>y7 (UT (i5 e) N)
  refine So.sort_rawP (s:={ s with heap:=n.push (Y2 "list" (as.map r6).toArray 0),toks:=tk }) (vs:=as.map r6) hB (by rw[d8,O];exact al) (λz p kp=>?_) (λh5 c5 c' hp kp b5=>?_)
  .have k4:∀b o,s.heap.get? b=some o->p.get? b=some o:=λb o e=>kp b o (a8 b o e) (k2 b o e);have r:∀(j:Nat) (a:Addr),as[j]?=some a->∃(g:J2) (k:List O0) (x:V),B[j]?=some g/\c[j]?=some (k,x)/\p.get? a=some { cls:=.type "tuple",data:=.seq #[g.key,g.val] }/\bZ p g.key (kz k)/\FA p g.val:=λj a C=>by obtain⟨g,k,x,l,e1,b6,e2,_,_,_,t1,t2⟩:=P j a C;exact⟨g,k,x,e1,b6,kp _ _ (nB a (a5 a (r0 C))) (f6 _ e2),t1.keep λb o _ q=>k4 b o q,t2.keep λb o _ q=>k4 b o q⟩
   have K:as.length=(B.toList.map Kt).length:=by rw[hl,d8,u9]
   rw[d8] at z;refine W.kat_kind (T:=.type "tuple") (tG (fs:=B.toList.map Kt) (λj a C=>?_) K) (by rw[<- K];lia) (λf hf=>?_) (by decide) ⟨rfl,λx y hx hy Q hQ=>?_⟩
   .obtain⟨g,k,x,e1,_,e2,_,_⟩:=r j a C;exact⟨g.key,g.val,by rw[w6,G7,e1];rfl,e2⟩
   .obtain⟨j,m⟩:=ZV.mp hf;rw[w6,G7] at m;obtain⟨g,e1,e2⟩:=Zt.mp m;have bb:j<as.length:=by rw[hl];exact(ZU.mp e1).1
    obtain⟨b0,k',x',e3,_,_,t1,_⟩:=r j as[j] (j4 bb);rw[e1] at e3;cases e3;rw[<- e2];obtain⟨b,us,eb,⟨ob,bc,be,_⟩,_⟩:=t1;rw[eb];exact W.kitAt_ty _ _ ⟨ob,bc,be⟩
   .obtain⟨x1,x2⟩:=x;obtain⟨y1,y2⟩:=y;dsimp only at hx hy hQ ⊢;obtain⟨ax,bi,rfl⟩:=ZY.mp hx;obtain⟨ay,bm,rfl⟩:=ZY.mp hy;obtain⟨i,hi⟩:=ZV.mp bi;obtain⟨j,m⟩:=ZV.mp bm;obtain⟨R,S,z1,f1,g1,e2,t1,t2⟩:=r i ax hi;obtain⟨a6,T,z2,f2,g2,e3,t3,t4⟩:=r j ay m;refine Iv e2 rfl e3 rfl t1 t3 (λe=>?_) (by show X.A.units+1+1<fW;lia) (hQ _);have bn:i=j:=by have bu:=(ZW.mp g1).1;have bv:=(ZW.mp g2).1;refine (Nr (h₀:=by rw[d8];exact bu) (h₁:=by rw[d8];exact bv) Z).mp ?_;rw[Nq,Nq];have q1:=(ZW.mp g1).2;have q2:=(ZW.mp g2).2;rw[q1,q2];exact e
    subst bn;rw[f1] at f2;cases f2;exact⟨rfl,rfl⟩
  .refine⟨_,rfl,f9 ⟨_,rfl,?_⟩⟩;have eL:as.map r6=(as.zip c).map λt=>r6 t.1:=by
    have:(as.zip c).map (λt=>r6 t.1)=((as.zip c).map Prod.fst).map r6:=by rw[R8];rfl
    rw[this,List.map_fst_zip (by lia)]
   rw[eL] at hp;obtain⟨L',hL,ab⟩:=oj hp;have k5:∀b o,s.heap.get? b=some o->h5.get? b=some o:=λb o e=>kp b o (a8 b o e) (k2 b o e);have U:∀t∈L',∃j:Nat,as[j]?=some t.1/\c[j]?=some t.2:=λt ht=>by have p:=hL.mem_iff.mp ht;obtain⟨j,m⟩:=ZV.mp p;rw[List.getElem?_zip_eq_some] at m;exact⟨j,m.1,m.2⟩
   obtain⟨objs,eo⟩:∃objs:List HO,objs=(B.toList.zip c).map λt=>HO.tup [.ref (match t.1.key with | .ref a=>a|_=>0),t.2.2]:=⟨_,rfl⟩
   have M:∀(j:Nat) (g:J2) (k:List O0) (x:V) (l:Addr),B[j]?=some g->c[j]?=some (k,x)->g.key=.ref l->objs[j]?=some (.tup [.ref l,x]):=λj g k x l p z h3=>by have hz:(B.toList.zip c)[j]?=some (g,(k,x)):=List.getElem?_zip_eq_some.mpr ⟨by rw[G7];exact p,z⟩;rw[eo,w6,hz];show some (HO.tup [.ref (match g.key with | .ref a=>a|_=>0),x])=_;rw[h3]
   have J:=I.lays (N:=λb=>if b=n.objs.size then some (.lst (L'.map λt=>V.ref t.1)) else (as.zip objs).lookup b) (h':=h5) (t':=tk) k5 (λb o hb e=>?_)
   .refine⟨.ref n.objs.size,_,J,rfl,q _ _ _ _ (I.hok.fresh (aJ N)) ?_ (λb o e=>?_) ?_ (QW.mk (L:=L') λt ht=>?_)⟩
    .have:=hL.map Prod.snd;rw[uj (by lia)] at this;exact this
    .show (if b<s.heap.objs.size then H b else _)=some o;rw[ZB (I.hok.lt e)];exact e
    .show (if n.objs.size<s.heap.objs.size then H n.objs.size else (if n.objs.size=n.objs.size then _ else _))=_;rw[ZC (kH (aJ N)),ZB rfl]
    .obtain⟨j,p,z⟩:=U t ht;obtain⟨g,k,x,l,e1,e2,_,e4,e5,_⟩:=P j t.1 p;rw[z] at e2;have Y:t.2=(k,x):=E8 e2;have hm:=r0 p;refine⟨l,?_,?_⟩
     .show (if t.1<s.heap.objs.size then H t.1 else (if t.1=n.objs.size then _ else (as.zip objs).lookup t.1))=_;rw[ZC (kH (ar _ hm)),ZC (nB _ (a5 _ hm)),Y];exact mT a4 p (M j g k x l e1 (by rw[z,Y]) e4)
     .show (if l<s.heap.objs.size then H l else _)=_;rw[ZB (I.hok.lt e5),Y];exact e5
   .by_cases A:b=n.objs.size
    .rw[ZB A] at e;cases e;have c2:∀L:List (Addr × (List O0 × V)),J9 (L.map λt=>V.ref t.1) (L.map λt=>r6 t.1):=λL=>by
      induction L with
      | nil=>exact .nil
      | cons t L ih=>exact .cons rfl ih
     refine⟨?_,L'.map (λt=>r6 t.1),c',c2 L',?_⟩
     .rw[d8,hL.length_eq,List.length_zip,R7];lia
     .rw[A,b5,ab]
    .rw[ZC A] at e;obtain⟨j,p,z⟩:=tj e;obtain⟨g,k,x,l,e1,e2,e3,e4,e5,e6,_⟩:=P j b p;rw[M j g k x l e1 e2 e4] at z;cases z;refine⟨⟨by show 2<=j6;decide,_,kp _ _ A (f6 _ e3),rfl⟩,[g.key,g.val],.cons ?_ (.cons e6 .nil),⟨_,kp _ _ A (f6 _ e3),rfl,_,rfl⟩⟩;exact e4
end
end L2
namespace G
open PySem PySem.Spec PyProof.Rows L2 Mt Md Mq
def lj:aV "sorted"=some (df "sorted"):=by decide
structure Nh (st:Addr) (H:Hp) (n:Nat) (ns:List Int) (rs:List (List Int)) (k:Nat) (a:Addr) (v:V):Prop where
 u:Dt st H (DI ns) (.ref a)
 uu:Mt.jW n 20 ns
 r:Dt st H (DR rs) v
 ru:Mt.jx n 5 rs
 n1:1<=n
 n4:n<=4
 k6:k<=6
 l64:(ng rs k [(ns,1)]).length<128
def Ra (d e g:E7) (i:Nat):Prop:=(i=0/\aO 20 d=false) ∨ (i=1/\aO 20 d=true/\aD (il d) e=false) ∨ (i=5/\aO 20 d=true/\aD (il d) e=true/\cD 0 6 g=false)
def TQ (ec:Nat->Addr) (vs:List V) (H:Hp) (E:XK):Prop:=∃(st:Addr) (u v x:V) (d e g:E7) (i:Nat),vs=[u,v,x]/\Dt st H d u/\js d/\Dt st H e v/\FR e/\Dt st H g x/\Ra d e g i/\∀a,u7 H a->E (.ref (ec i)) none a
section
variable {P:j0}{w:w5}{K:m9}{mg:Str->Option b9}{base:Heap}{f:Addr}{fd:C5}{ec:Nat->Addr}
theorem NL {H:Hp}:∀{T:T9}{kvs:List (List O0 × V)},QE H T kvs->(kvs.map λt=>kz t.1)=T.map (·.1)
 | [],[],_=>rfl
 | p::T,c::kvs,h=>by
  obtain⟨b,x⟩:=c;have a:b=Md.kI p.1:=h.1;rw[t8,t8,NL h.2.2];congr 1;show kz b=p.1;rw[a];exact Dh p.1
 | [],_::_,h=>h.elim
 | _::_,[],h=>h.elim
def OO:Sp:=λg H Q _=>∃(st a:Addr) (v:V) (n k:Nat) (ns:List Int) (c:List (List Int)),g=[.ref a,v,.int k]/\Nh st H n ns c k a v /\
 ∀D d e b,u7 H b->e.Perm (ng c k [(ns,1)])->b D=some (.lst d)->BQ b e d->Q (.ref D) b
def yr (ec:Nat->Addr):Sp:=λa H Q E=>TQ ec a H E ∨ OO a H Q E
abbrev Pf:Stmt:=top 42
def CG:C6 ["urn","rule","draws","chances","turn"] ["urn","rule","draws"] (A0 Pf):=aS
def SX (F:aU K "stands" "stands" Pf f fd) (B:Bt mg) (B3:Ue mg) (C2:Ct2 mg) (c1:Z9 P w K mg base 6 "need_urn_and_rule" ["urn","rule"] (AF ec)) (c2:Z9 P w K mg base 2 "need_number" ["thing","low","high"] (bU ec)) (c3:Y1 P w K mg base 1 "own_urn" ["urn"] mI) (c4:Y1 P w K mg base 4 "next_chances" ["chances","rule"] se):K6 P w K mg base (fO P w) 7 f fd ["urn","rule","draws"] (yr ec):=by
 refine F.okX CG (λvs H Q E h=>?_) (λb0 A a6 s H vs Q E U h=>?_)
 .rcases h with ⟨st,u,v,x,d,e,g,i,rfl,_⟩|⟨st,a,v,n,k,ns,O,rfl,_⟩
  .rfl
  .rfl
 obtain⟨tw,hW⟩:=C2.stand;refine⟨_,m8 (aw (Q9 c1 U rfl U7 (b8 (pv 0) (b8 (pv 1) i3)))) (m8 (aw (Q9 (c2.up (by decide)) U rfl U7 (b8 (pv 2) (b8 A7 (b8 (Q8 (v:=.int 6) rfl hW ⟨tw,rfl⟩) i3)))))
  (ur.nox (m8 (F7 (i:=3) CG.nd rfl (B6 rfl) (PL (ki U) (D9 (c3.up (by decide)) U rfl (b8 (pv 0) i3)) (mQ (b8 A7 (b8 A7 i3)))))
  (m8 (eQ M4 rfl (Y6 rfl B.range (b8 (pv 2) i3)) (U6 (i:=4) CG.nd rfl (B6 rfl))
   (u6 (F7 (i:=3) CG.nd rfl (B6 rfl) (D9 (c4.up (by decide)) U rfl (b8 (pv 3) (b8 (pv 1) i3))))))
  (u6 (C8 (D4 (BZ rfl U.units) rfl B3.sorted lj (b8 (Ij (pv 3)) i3)))))))),?_⟩
 obtain⟨st,u,v,x,d,e,g,i,rfl,hu,a7,hv,a8,hx,L,q⟩|⟨st,a,v,n,k,ns,O,rfl,C,q⟩:=h
 .unfold Ra at L;refine⟨_,rfl,_,rfl,u,v,st,d,e,rfl,hu,a7,hv,a8,λX I J=>?_,λX R I J=>?_,λX R I J=>?_⟩
  .rcases L with ⟨rfl,_⟩|⟨_,z,_⟩|⟨_,z,_⟩
   .exact q I J
   all_goals (rw[X] at z;cases z)
  .rcases L with ⟨_,z⟩|⟨rfl,_⟩|⟨_,_,z,_⟩
   .rw[X] at z;cases z
   .exact q I J
   .rw[R] at z;cases z
  .rcases L with ⟨_,z⟩|⟨_,_,z⟩|⟨rfl,_,_,z⟩
   .rw[X] at z;cases z
   .rw[R] at z;cases z
   .exact⟨_,rfl,x,st,g,0,6,rfl,hx.kp (J.kp st),Sx,Sw,(λzt=>by rw[z] at zt;cases zt),λ_=>q I J⟩
 .have hU:=C.uu;have Y:=C.ru;have n1:=C.n1;have n4:=C.n4;have k6:=C.k6;obtain⟨a',e,_,ha⟩:=C.u.di;cases e;have a9:=nW hU n1 n4;have ab:aD (il (DI ns):Int) (DR O)=true:=by rw[gu,hU.len];exact sx Y
  have ay:=Y.len;refine⟨_,rfl,_,rfl,_,_,st,DI ns,DR O,rfl,C.u,jr (by rw[hU.len];lia),C.r,⟨yx (by lia),ve Y (by lia)⟩,(λz=>by rw[a9] at z;cases z),(λ_ z=>by rw[ab] at z;cases z),λ_ _ I J=>?_⟩;have ac:cD 0 6 (.int (k:Int))=true:=by show (decide ((0:Int)<=(k:Int))&&decide ((k:Int)<=6))=true;rw[ZA (by lia),ZA (by lia)];rfl
  refine⟨_,rfl,_,st,.int k,0,6,rfl,Dt.int _ _ _,Sx,Sw,(λ_=>?_),(λz=>by rw[ac] at z;cases z)⟩;intro p hp;have g2:u7 I (C3 I p (.dT [])):=u7.new hp;have Z:C3 I p (.dT []) p=some (.dT []):=j3;have a0:H p=none:=J.free hp;generalize C3 I p (.dT [])=H2 at g2 Z;refine⟨_,rfl,a,_,rfl,g2 _ _ (J _ _ ha),λb m N hb=>⟨(by show 2<=j6;decide),λc hc=>?_⟩⟩;have t:u7 m (C3 m c (.tup [.int 1,.int 1])):=u7.new hc;have a1:C3 m c (.tup [.int 1,.int 1]) c=some (.tup [.int 1,.int 1]):=j3;try dsimp -proj only
  generalize C3 m c (.tup [.int 1,.int 1])=H4 at t a1;have a2:=t _ _ (N _ _ Z);have ad:=t _ _ hb;have gg:u7 H H4:=((J.trans g2).trans N).trans t;refine⟨a2,b,kI ns,rfl,by rw[Dj];exact ad,?_⟩;have al:∀(ps:List (List O0 × V)) xs,HO.dT ps≠.tup xs:=λ_ _ z=>by cases z
  have wo:=λj hj=>vI Y n4 hU j hj;refine⟨_,rfl,(k:Int),rfl,by lia,by lia,?_⟩;refine lT (lo:=0) (n:=k) (λj σ m=>u7 H m/\j<=k/\∃p l o5,H p=none/\m p=some (.dT l)/\QE m (ng O j [(ns,1)]) l/\σ=[some (.ref a),some v,some (.int k),some (.ref p),o5])
   ⟨λc o e=>by rw[t9 (A5 e a0)];exact gg _ _ e,A6 _,p,_,none,a0,j3,⟨rfl,⟨c,rfl,xl a2 (al _) Kp.at _ _ a1⟩,trivial⟩,rfl⟩ (λj σ m hj h=>?_) (λσ m h=>?_)
  .obtain⟨N,b4,p,l,o5,a3,M,S,rfl⟩:=h;obtain⟨w1,w2,w3,w4⟩:=wo j (by lia);have hl:(ng O j [(ns,1)]).length<=1024:=j9 w4 (G4 (n:=4) (by decide) (show j<=5 by lia));have a4:j<=5:=by lia
   have e1:LL ^ j<=2 ^ 1600:=j9 (Cg j) (G4 (by decide) (by lia));have e2:4 ^ (j*j)<=2 ^ 60:=by have:j*j<=5*5:=N7 a4 a4;exact j9 (G4 (by decide) this) (by decide)
   refine⟨_,rfl,_,rfl,p,st,v,n,20+5*j,LL ^ j,4 ^ (j*j),_,l,O,rfl,M,S,w1,by lia,hl,w3,xF j,e1,e2,C.r.kp (N.kp st),Y,n4,λp' y H4 k4 am h4 r=>?_⟩;have t:u7 H H4:=λc o e=>k4 _ _ (A5 e a3) (N _ _ e);exact⟨t,by lia,p',y,_,N.free am,h4,r,rfl⟩
  .obtain⟨N,_,p,l,o5,a3,M,S,rfl⟩:=h;refine⟨_,rfl,p,l,rfl,M,λz hz=>?_⟩;have t:u7 m (C3 m z (qF z p)):=u7.new hz;have a5:C3 m z (qF z p) z=some (qF z p):=j3;generalize C3 m z (qF z p)=H4 at t a5;have r:QE H4 (ng O k [(ns,1)]) l:=S.mono λa xs e=>t _ _ e;refine⟨z,p,l,rfl,a5,t _ _ M,by rw[r.len];exact C.l64,r.keys,(by rw[NL r];exact(wo k k6).2.1),λD ys y H5 _ T g5 hD an=>?_⟩;obtain⟨T',ap,ar⟩:=r.perm T;have ax:QE H5 T' y:=ar.mono λa xs e=>g5 _ _ e;exact q D ys T' H5 (N.trans (t.trans g5)) ap hD (BQ.of ax an)
end
structure AskF (st:Addr) (H:Hp) (n:Nat) (ns:List Int) (rs:List (List Int)) (a:Addr) (v:V):Prop where
 u:Dt st H (DI ns) (.ref a)
 uu:Mt.jW n 20 ns
 r:Dt st H (DR rs) v
 ru:Mt.jx n 5 rs
 n1:1<=n
 n4:n<=4
end G
namespace Mq
open PySem PySem.Spec L2 Mt Md
def dd {b:Type} [DecidableEq b]:List b->List b
 | []=>[]
 | a::l=>if a∈dd l then dd l else a::dd l
theorem Ja {b:Type} [DecidableEq b] {x:b}:∀{l:List b},x∈l->x∈dd l
 | a::l,h=>by
  unfold dd;obtain e|e:=C7.mp h
  .subst e;split
   .assumption
   .exact f7
  .have:=Ja e;split
   .exact this
   .exact g0 _ this
theorem BX {b:Type} [DecidableEq b] {x:b}:∀{l:List b},x∈dd l->x∈l
 | [],h=>h
 | a::l,h=>by
  unfold dd at h;split at h
  .exact g0 _ (BX h)
  .rcases C7.mp h with e|e
   .subst e;exact f7
   .exact g0 _ (BX e)
theorem IX {d:Type} [DecidableEq d]:∀{l m:List d},l.Nodup->(∀a∈l,a∈m)->l.length<=m.length
 | [],m,_,_=>A6 _
 | a::l,m,c,h=>by
  rw[dD] at c;have f:=h a f7;have i:=IX (l:=l) (m:=m.erase a) c.2 λb g=>by have:b≠a:=λe=>c.1 (e ▸ g);exact(List.mem_erase_of_ne this).mpr (h b (g0 _ g))
  have:=List.length_erase_of_mem f;have j:0<m.length:=lF f;rw[n5];lia
def Fg (n:Nat):Nat->List (List Int)
 | 0=>[cG n 0]
 | k+1=>dd ((Fg n k).flatMap λc=>(P0 n).map λi=>RB c i)
theorem zC {n:Nat}:∀{k:Nat}{c:List Int},c∈Fg n k->c.length=n
 | 0,c,h=>by rw[ZZ.mp h];simp
 | k+1,c,h=>by obtain⟨d,a,b⟩:=ZG.mp (BX (show c∈dd _ from h));obtain⟨i,_,e⟩:=ZY.mp b;rw[<- e];unfold RB;rw[lY];exact zC a
theorem sC {x:Rat}{s:Int}:∀{bs:List (Int × List Int)}{D:T9}{p:List Int × Rat},p∈cJ x s bs D->(∃b∈bs,p.1=b.2) ∨ ∃q∈D,q.1=p.1
 | [],D,p,h=>.inr ⟨p,h,rfl⟩
 | b::bs,D,p,h=>by
  unfold cJ at h;obtain⟨c,a,e⟩|⟨q,d,e⟩:=sC h
  .exact .inl ⟨c,g0 _ a,e⟩
  .rcases lQ d with e2|⟨r,f,e2⟩
   .exact .inl ⟨b,f7,by rw[<- e,e2]⟩
   .exact .inr ⟨r,f,by rw[e2,e]⟩
theorem qw {rs:List (List Int)}:∀{T D:T9}{p:List Int × Rat},p∈Z0 rs T D->(∃q∈T,∃b∈va rs q.1,p.1=b.2) ∨ ∃q∈D,q.1=p.1
 | [],D,p,h=>.inr ⟨p,h,rfl⟩
 | t::T,D,p,h=>by
  unfold Z0 at h;obtain⟨q,a,b,c,e⟩|⟨q,a,e⟩:=qw h
  .exact .inl ⟨q,g0 _ a,b,c,e⟩
  .rcases sC a with ⟨b,c,e2⟩|⟨r,d,e2⟩
   .exact .inl ⟨t,f7,b,c,by rw[<- e,e2]⟩
   .exact .inr ⟨r,d,by rw[e2,e]⟩
theorem Dy {n:Nat}{rs:List (List Int)}{u:List Int} (g:jx n 5 rs) (d:u.length=n):∀{k:Nat}{p:List Int × Rat},p∈ng rs k [(u,1)]->∃c∈Fg n k,p.1=Kz u rs c
 | 0,p,h=>by
  rw[ZZ.mp h];exact⟨_,ZZ.mpr rfl,(JZ u rs n).symm⟩
 | k+1,p,h=>by
  obtain⟨q,f,b,o,e⟩|⟨q,f,_⟩:=qw (show p∈Z0 rs (ng rs k [(u,1)]) [] from h)
  .obtain⟨c,i,e2⟩:=Dy g d f;obtain⟨j,a,_,l⟩:=ou o;rw[U9] at l;have m:j<n:=by rw[e2] at a;unfold Kz at a;rw[d8,fb,d] at a;exact a
   refine⟨RB c j,Ja (ZG.mpr ⟨c,i,ZY.mpr ⟨j,ZT.mpr m,rfl⟩⟩),?_⟩;rw[MY d (zC i) g m,e,l,e2]
  .simp at f
end Mq
namespace G
open PySem PySem.Spec PyProof.Rows L2 Mt Md Mq
def zH (u:List Int) (k:Nat):Rat:=((u.getD k 0:Int):Rat)
def xR (rs:List (List Int)) (ns:List Int) (k n:Nat):List Rat:=(P0 n).map λi=>uF (ng rs k [(ns,1)]) (λu=>zH u i)
def Mj (rs:List (List Int)) (ns:List Int) (k n:Nat):(xR rs ns k n).length=n:=by unfold xR;rw[d8,fb]
def Jy {t:Int}{B:Nat} (a:0<=t) (b:t<=(B:Int)):Vq 1 B ((t:Int):Rat):=by
 refine⟨by exact_mod_cast a,?_,t,?_⟩
 .have:((t:Int):Rat)<=(((B:Nat):Int):Rat):=by exact_mod_cast b
  have e:(((B:Nat):Int):Rat)=((B:Nat):Rat):=by norm_cast
  rw[<- e];exact this
 .have e:((1:Nat):Rat)=1:=rfl;rw[e];grind
def Qz {t:Int} (a:0<=t) (b:t<=4096):Bd 12 ((t:Int):Rat):=by
 refine⟨?_,?_⟩
 .show t.natAbs<=4096;lia
 .show 1<=4096;decide
section
variable {P:j0}{w:w5}{K:m9}{mg:Str->Option b9}{base:Heap}{f:Addr}{fd:C5}{ec:Nat->Addr}
def GH:Sp:=λc H Q _=>∃(D:Addr) (k n m N E:Nat) (T:T9) (b:List V),c=[.ref D,.int k]/\H D=some (.lst b)/\BQ H T b/\jy n m T/\m<=50/\n<=4/\k<n/\je N E T/\T.length<128/\0<N/\N<=2 ^ 1800/\E<=2 ^ 80 /\
 ∀r a,u7 H a->a r=some (.tup ((fr (uF T λu=>zH u k)).map V.int))->Q (.ref r) a
abbrev Pl:Stmt:=top 44
def SE:C6 ["behind","kind"] ["behind","kind"] (A0 Pl):=aS
def Td (F:aU K "mean_balls" "mean_balls" Pl f fd) (c1:Y1 P w K mg base 4 "total" ["fractions"] rW) (c2:Y1 P w K mg base 3 "times" ["one","other"] nZ):K6 P w K mg base ee 5 f fd ["behind","kind"] GH:=by
 refine F.ok SE (λvs H Q E h=>?_) (λa0 A I s H vs Q E X h=>?_)
 .obtain⟨D,k,n,m,N,E,T,Y,rfl,_⟩:=h;rfl
 obtain⟨D,k,n,m,N,j,T,Y,rfl,Z,J,hK,hm,n4,hk,hE,hl,l,y,o,q⟩:=h;refine⟨_,u6 (C8 (D9 c1 X rfl (b8 (Q2 (N:=["urn","so_likely","kind"]) (ix:=[none,none,some 1]) (ifs:=[]) (tc:=ag) rfl (cQ (pv 0))
   (λs H ex=>LO (K:=K) (n:=2) rfl rfl (X8 (dq (i:=0) (by decide) rfl (B6 rfl) (.inr rfl)) (X8 (dq (i:=1) (by decide) rfl (B6 rfl) (.inr rfl)) iA))) (λs H ex=>P5)
   (λs H ex=>D9 (c2.up (by decide)) X rfl (b8 (mQ (b8 (R5 (ixK (K:=K) rfl) (pv 0) (pv 2) (λ_ _=>rfl)) (b8 A7 i3))) (b8 (pv 1) i3))) rfl (by decide) (by rfl) (by rfl) (λ_=>rfl)) i3))),?_⟩
 refine⟨_,rfl,D,rfl,⟨_,.of Z⟩,?_⟩;refine Ft (K:=K) (a:=D) (xs:=Y) (sz (by rw[J.len];lia)) (λi c b=>u7 H b/\i<=T.length/\uP b ((T.take i).map λp=>zH p.1 k*p.2) c) ⟨u7.refl H,A6 _,trivial⟩ (λi c b h=>?_) (λi c b _ h=>.of (h.1 _ _ Z)) ⟨rfl,rfl⟩ (λi c b x L h=>?_) (λc b h=>?_)
 .rw[h.2.2.len,d8,B0];have:=h.2.1;lia
 .obtain⟨g,hi,z⟩:=h;obtain⟨p,r,ka,qa,d,rfl,h1,h2,h3⟩:=J.get L;have M:=(ZW.mp d).1;have t:=hK p (r0 d);have hv:=hE p (r0 d);have B:=t.getD k;refine⟨r,.ref ka,.ref qa,rfl,.of (g _ _ h1),_,rfl,_,rfl,ka,_,_,_,rfl,rfl,.of (g _ _ h2),xy (by rw[t.len];exact hk),(by show 2<=j6;decide),λu O=>?_⟩;have C:u7 b (C3 b u (.tup [.int (p.1.getD k 0),.int 1])):=u7.new O;have h5:C3 b u (.tup [.int (p.1.getD k 0),.int 1]) u=some (.tup ((fr (zH p.1 k)).map V.int)):=j3;try dsimp -proj only
  generalize C3 b u (.tup [.int (p.1.getD k 0),.int 1])=H5 at C h5;have d1:Bd 1880 p.2:=hv.bd l (by
   have:(2:Nat) ^ 1880=2 ^ 1800*2 ^ 80:=by rw[<- X7]
   rw[this];exact N7 y o) (j9 y (G4 (by decide) (by decide)))
  refine⟨_,rfl,u,qa,zH p.1 k,p.2,12,1880,rfl,h5,C _ _ (g _ _ h3),B.1,Rat.num_nonneg.mpr hv.nn,Qz B.1 (by lia),d1,by decide,λp6 H6 g6 R=>⟨g.trans (C.trans g6),M,?_⟩⟩;rw[D8,d,v9];exact uP.snoc ⟨p6,rfl,R⟩ (z.mono λa xs e=>g6 _ _ (C _ _ e))
 .obtain⟨g,_,z⟩:=h;intro p d;rw[J.len,M6] at z;have S:u7 b (C3 b p (.lst c)):=u7.new d;have v:C3 b p (.lst c) p=some (.lst c):=j3;generalize C3 b p (.lst c)=H3 at S v;refine⟨p,c,T.map (λp=>zH p.1 k*p.2),1*N,64*j,1900,rfl,v,z.mono λa xs e=>S _ _ e,λx L=>?_,nU (by decide) l,?_,by rw[FY];exact j9 y (G4 (by decide) (by decide)),by decide,λr H4 g4 U=>?_⟩
  .obtain⟨p,d,e⟩:=ZY.mp L;subst e;have B:=(hK p d).getD k;exact((Jy (B:=64) B.1 (by lia)).mul (hE p d))
  .have:(2:Nat) ^ 1900=2 ^ 1800*(2 ^ 80*2 ^ 20):=by rw[<- X7,<- X7]
   rw[this,FY];refine N7 y ?_;rw[d8];have:64*j*T.length+64*j=j*(64*T.length+64):=by rw[bE,<- Ut,US j 64]
   rw[this];exact N7 o (by show _<=1048576;lia)
  .refine q r H4 ((g.trans S).trans g4) ?_;rw[tq];exact U
def OP:Sp:=λe H Q _=>∃(st a:Addr) (v:V) (n k:Nat) (ns:List Int) (c:List (List Int)),e=[.ref a,v,.int k]/\Nh st H n ns c k a v /\
 ∀p d b,u7 H b->b p=some (.tup d)->uP b (xR c ns k n) d->Q (.ref p) b
def CB (ec:Nat->Addr):Sp:=λa H Q E=>TQ ec a H E ∨ OP a H Q E
abbrev Pk:Stmt:=top 46
def NG:C6 ["urn","rule","draws","behind"] ["urn","rule","draws"] (A0 Pk):=aS
def Tc (F:aU K "mean" "mean" Pk f fd) (B:Bt mg) (c1:Z9 P w K mg base 7 "stands" ["urn","rule","draws"] (yr ec)) (c2:Y1 P w K mg base 5 "mean_balls" ["behind","kind"] GH):K6 P w K mg base (fO P w) 8 f fd ["urn","rule","draws"] (CB ec):=by
 refine F.okX NG (λS H Q E h=>?_) (λT A C s H S Q E M h=>?_)
 .rcases h with ⟨st,u,v,x,d,e,g,i,rfl,_⟩|⟨st,a,v,n,k,ns,m,rfl,_⟩
  .rfl
  .rfl
 refine⟨_,m8 (F7 (i:=3) NG.nd rfl (iu rfl) (Q9 c1 M rfl U7 (b8 (pv 0) (b8 (pv 1) (b8 (pv 2) i3)))))
  (ur.nox (u6 (C8 (G9 Q3 rfl B.tuple Z6 (b8 (Q2 (N:=["kind","behind"]) (ix:=[none,some 3]) (ifs:=[]) (tc:=ag) rfl
   (Y6 rfl B.range (b8 (D4 R1 rfl B.len J8 (b8 (pv 0) i3)) i3))
   (λs H N=>dq (i:=0) (by decide) rfl (B6 rfl) (.inr rfl)) (λs H N=>P5)
   (λs H N=>D9 (c2.up (by decide)) M rfl (b8 (pv 1) (b8 (pv 0) i3))) rfl (by decide) (by rfl) (by rfl) (λ_=>rfl)) i3))))),?_⟩
 obtain I|⟨st,a,v,n,k,ns,m,rfl,b,q⟩:=h
 .obtain⟨st,u,v,x,d,e,g,i,rfl,aW⟩:=I;exact⟨_,rfl,_,rfl,_,rfl,.inl ⟨st,u,v,x,d,e,g,i,rfl,aW⟩⟩
 refine⟨_,rfl,_,rfl,_,rfl,.inr ⟨st,a,v,n,k,ns,m,rfl,b,λD U V X O hT Y Z=>?_⟩⟩;obtain⟨a',e,_,ha⟩:=b.u.di;cases e;have J:=b.uu.len;have R:=b.n4;have k6:=b.k6;obtain⟨w1,w2,w3,w4⟩:=vI b.ru R b.uu k k6;have e1:LL ^ k<=2 ^ 1800:=j9 (Cg k) (G4 (by decide) (by lia));have e2:4 ^ (k*k)<=2 ^ 80:=by have:k*k<=6*6:=N7 k6 k6;exact j9 (G4 (by decide) this) (by decide)
 refine⟨_,rfl,a,_,rfl,.inr (.of (O _ _ ha)),(n:Int),by rw[d8,J],by lia,by lia,?_⟩;refine cZ (lo:=0) (n:=n) (sz (by lia)) (λi c j=>u7 X j/\i<=n/\uP j (xR m ns k i) c) ⟨u7.refl _,A6 _,trivial⟩ (λi c j h=>?_) rfl (λi c j hi h=>?_) (λc j h=>?_)
 .rw[h.2.2.len,Mj]
 .obtain⟨o,a0,L⟩:=h;have e0:(0:Int)+(i:Int)=(i:Int):=by lia
  rw[e0];refine⟨_,rfl,_,rfl,D,i,n,20+5*k,LL ^ k,4 ^ (k*k),V,U,rfl,o _ _ Y,Z.same o,λp t=>w1 p (hT.mem_iff.mp t),by lia,R,hi,λp t=>w3 p (hT.mem_iff.mp t),by rw[hT.length_eq];exact b.l64,xF k,e1,e2,λr H3 y z=>⟨o.trans y,by lia,?_⟩⟩;rw[EK hT] at z;have e3:xR m ns k (i+1)=xR m ns k i++[uF (ng m k [(ns,1)]) (λu=>zH u i)]:=by unfold xR;rw[Os,v9];rfl
  rw[e3];exact uP.snoc ⟨r,rfl,z⟩ (L.mono λa xs e=>y _ _ e)
 .obtain⟨o,_,L⟩:=h;intro p t;refine⟨p,_,rfl,.inl ⟨.of j3,λl hl=>?_⟩⟩;have y:u7 j (C3 (C3 j p (.lst c)) l (.tup c)):=(u7.new t).trans (u7.new hl);exact q l c _ ((O.trans o).trans y) j3 (L.mono λa xs e=>y _ _ e)
end
end G
namespace L2
open PySem PySem.Spec PyProof.Rows
section
variable {K:m9}{σ0:St}{te:TE}{H:Hp}{F:List V->Hp->Prop}
end
section
variable {X:Cx}
def Oa (K:m9) (a b:Addr):It :=
 ⟨λi H=>∃c d x y,jb K H a c/\jc K H b d/\c[i]?=some x/\d[i]?=some y,λi H v e=>∃p x y,H p=none/\v=.ref p/\e=C3 H p (.tup [x,y])/\(∀c,jb K H a c->c[i]?=some x)/\∀d,jc K H b d->d[i]?=some y,
  λi H=>∃c,jb K H a c/\c.length<=i⟩
def QB (K:m9) (d:TA):TI:=λe H R=>d e H λf c=>∃a b g h,f=[.ref a,.ref b]/\jb K c a g/\jc K c b h/\R (Oa K a b) c
def Ib {e1 e2:Expr}{es:List Expr}{c:Nat}{pt p pos:Pos}{b:TA} (d:Gl X "zip") (f:X.mg "zip"=none) (g:PA X [e1,e2] b) (hs:B9 [e1,e2] X.env=[(false,eval e1 X.env),(false,eval e2 X.env)]:=by rfl) (a:B9 [e2] X.env=[(false,eval e2 X.env)]:=by rfl):
  PI X (.Tuple es c pt) (.Call (.Name "zip" p) [e1,e2] [] pos) (QB X.K b):=
 CN d f g (λI ⟨_,_,_,_,e,i,j,h⟩=>⟨_,_,e,yh (p:=false) (q:=true) I i j (λD=>vb D) h⟩) hs a
end
section
variable {K:m9}
def Fq {a b:Addr}{xs ys:List V}{d:St}{n:TE}{H:Hp}{F:List V->Hp->Prop} (E:xs.length<=j6) (s:xs.length=ys.length) (Pv:Nat->List V->Hp->Prop) (t:Pv 0 [] H) (u:∀i c H,Pv i c H->c.length=i)
  (w:∀i c H,i<=xs.length->Pv i c H->jb K H a xs/\jc K H b ys) (h:d[0]?=some none/\d[1]?=some none)
  (hs:∀i c H x y p,xs[i]?=some x->ys[i]?=some y->H p=none->Pv i c H->n ((d.set 0 (some x)).set 1 (some y)) (C3 H p (.tup [x,y])) λz g=>Pv (i+1) (c++[z]) g) (hd:∀c H,Pv xs.length c H->F c H):
  Cj (Oa K a b) d (EX K 2 (oB (V5 0) (oB (V5 1) JE))) ag n H F:=by
 refine⟨λi m c H=>m=xs.length - i/\i<=xs.length/\Pv i c H,⟨xs.length,by simp,A6 _,t⟩,?_⟩;rintro i m c j ⟨rfl,A,p⟩;obtain⟨k,o⟩:=w i c j A p;refine⟨by rw[u i c j p];lia,?_⟩;by_cases f:i<xs.length
 .refine .inr ⟨⟨xs,ys,xs[i],ys[i]'(by lia),k,o,by simp[f],by rw[j4 (by lia)]⟩,λy g=>Pv (i+1) (c++[y]) g,λ_=>False,λy g q=>⟨xs.length - (i+1),by lia,rfl,f,q⟩,λ_ q=>q.elim,λv I l=>?_⟩;obtain⟨r,x,y,B,rfl,rfl,C,D⟩:=l;exact⟨r,[x,y],rfl,.of j3,rfl,x,[y],rfl,y,[],rfl,rfl,wk2 h _ _,hs i c _ x y r (C xs k) (D ys o) B p⟩
 .have e:i=xs.length:=by lia
  subst e;exact .inl ⟨⟨xs,k,i4 _⟩,hd c j p⟩
end
section
variable {prog:j0}{w:w5}{A:A3}{E:b9->d9->Prop}{s:d9}
end
section
variable {X:Cx}
end
section
variable {X:Cx}{K:m9}
end
section
variable {prog:j0}{w:w5}{A:A3}{E:b9->d9->Prop}{s:d9}
end
section
variable {X:Cx}{pins:List (Addr × Obj)}{σ:St}{H:Hp}{s:d9}
end
section
variable {prog:j0}{w:w5}{A:A3}{E:b9->d9->Prop}{s:d9}
variable {d:Addr}{od:Obj}{es:Array J2}{ep:Nat}
def BM {Q:b9->d9->Prop} (hd:(d == R4)=false) (hT:s.TypeIs (.ref d) "dict") (a:s.heap.get? d=some od) (b:od.data=.dict es ep)
  (q:Q (.ref s.heap.objs.size) { s with heap:=s.heap.push { cls:=.type "dict_keyiterator",data:=.fields #[.ref d,.int 0 0,.int es.size 0,.int ep 0] } }):
  j8 (n6 prog w) A (qJ (.ref d)) Q E s:=by
 refine vQ hT RY (G1 RY hT F.entry_dict_iter ?_ (F.args_dict_iter_1 _));unfold iw.«dict.__iter__»;refine b7 ?_;unfold Builtin.Dict.dictSlotNone;refine b7 (Ni hT ?_);show j8 _ _ (pure (r6 d)) _ _ s;refine f9 ?_;show j8 _ _ (dG d >>= _) _ _ s;unfold dG;rw[ZC (by rw[hd];exact v8)];refine b7 (f9 ?_);refine b7 (Z1 a b (b7 (aP a b ?_)));refine b7 ?_;unfold UN;refine E4 (f9 ⟨_,rfl,"dict_keyiterator",_,⟨_,j7 _ rfl,rfl⟩,F.slot_dict_keyiterator_next.lookup,?_⟩);simpa [N6] using q
def BN {it:Addr}{i:Nat}{j:J2}{Q:Option b9->d9->Prop} (c:s.heap.IsKeyIter it d i es.size ep)
  (e:s.heap.get? d=some od) (g:od.data=.dict es ep) (k:es[i]?=some j)
  (q:∀l,l.IsKeyIter it d (i+1) es.size ep->F5 it s.heap l->Q (some j.key) { s with heap:=l }):j8 (n6 prog w) A (Y3 (.ref it)) Q E s:=by
 obtain⟨ob,b,f,a⟩:=id c;unfold Y3;refine b7 (S8 (F6 (name:=K9 "__next__") c.typeIs cn (G1 cn c.typeIs xP ?_ (vW _))));refine b7 (f9 (b7 (b7 ?_)));first|refine b7 (cf c.typeIs (f9 ?_))|refine b7 (eE c.typeIs (f9 ?_))
 refine b7 (bJ b a ?_);have own:M5 "dict_keyiterator"=false:=by decide
 simp only[own,F8,Zq];show j8 _ _ (if (r6 d == B4)=true then _ else _) _ _ s;rw[ZC (show ¬ ((r6 d == B4)=true) from v8)];refine b7 (f9 (b7 (Z1 e g ?_)));rw[ZC (by simp)];refine b7 (f9 (b7 (aP e g ?_)));rw[ZC (by simp)];refine f9 ?_;have lt:i<es.size:=(ZU.mp k).1;have n:es[i]=j:=by rw[Q0 lt] at k;exact E8 k
 simp only[show ¬ ((i:Int)<0) from by lia,Zq,M9,Q0 lt];refine b7 ?_;first|refine b7 (cf c.typeIs (f9 ?_))|refine b7 (eE c.typeIs (f9 ?_))
 refine b7 (Nk c.typeIs ?_);show j8 _ _ (iO (.ref it) 1 (N6 ((i:Int)+1)) >>= _) _ _ s;refine b7 (S7 b a (by simp) ?_);have h:(s.heap.update it (J4 (·.setIfInBounds 1 (N6 ((i:Int)+1))))).IsKeyIter it d (i+1) es.size ep :=
  ⟨_,K2 _ b (V9 (M3 a _)),(jZ ..).trans f,by rw[M3 a];simp[N6]⟩
 have m:fF { s with heap:=s.heap.update it (J4 (·.setIfInBounds 1 (N6 ((i:Int)+1)))) } (.ref it) "dict_keyiterator":=h.typeIs (s:={ s with heap:=s.heap.update it (J4 (·.setIfInBounds 1 (N6 ((i:Int)+1)))) });refine b7 (F2 (b7 (Nk m ?_)));show j8 _ _ (pure es[i].key) _ _ _;rw[n];exact f9 (f9 ⟨_,rfl,f9 (q _ h (N1 ..))⟩)
def EN {it:Addr}{i:Nat}{Q:Option b9->d9->Prop} (k:A.handled=none) (e:s.heap.IsKeyIter it d i es.size ep)
  (a:s.heap.get? d=some od) (f:od.data=.dict es ep) (g:es.size<=i) (q:∀j,gB it s.heap j->Q none { s with heap:=j }):j8 (n6 prog w) A (Y3 (.ref it)) Q E s:=by
 obtain⟨ob,b,h,c⟩:=id e;unfold Y3;refine b7 (S8 (F6 (name:=K9 "__next__") e.typeIs cn (G1 cn e.typeIs xP ?_ (vW _))));refine b7 (f9 (b7 (b7 ?_)));first|refine b7 (cf e.typeIs (f9 ?_))|refine b7 (eE e.typeIs (f9 ?_))
 refine b7 (bJ b c ?_);have own:M5 "dict_keyiterator"=false:=by decide
 simp only[own,F8,Zq];show j8 _ _ (if (r6 d == B4)=true then _ else _) _ _ s;rw[ZC (show ¬ ((r6 d == B4)=true) from v8)];refine b7 (f9 (b7 (Z1 a f ?_)));rw[ZC (by simp)];refine b7 (f9 (b7 (aP a f ?_)));rw[ZC (by simp)];refine f9 ?_;simp only[show ¬ ((i:Int)<0) from by lia,Zq,M9,kK g];refine b7 ?_;first|refine b7 (cf e.typeIs (f9 ?_))|refine b7 (eE e.typeIs (f9 ?_))
 show j8 _ _ (iO (.ref it) 0 .none >>= _) _ _ s;refine b7 (S7 b c (by simp) ?_);show j8 _ _ (xY (.type "StopIteration") [] >>= _) _ _ _;refine b7 ?_;simp only[xY,DN];refine b7 (E4 ?_ (by size_fits));refine b7 (m:=bL _ _) (qI (a:=B4) (by first|rfl | (simp only[bL];rfl)) ?_);refine E4 ?_ (by size_fits);simp only[Oj];refine b7 (uf ?_);rw[show A.in1.handled=none from k];refine b7 (f9 (qH ?_));refine b7 (hV (T:="StopIteration") (b:=true) ⟨_,j7 _ rfl,rfl⟩ ko ?_);exact f9 (q _ (((N1 ..).extBut.push _).push _))
end
section
variable {X:Cx}{pins:List (Addr × Obj)}{σ:St}{H:Hp}{s:d9}
end
section
variable {X:Cx}
open Classical in
end
end L2
namespace So
open PySem PyProof.Rows PySem.Spec L2
section
variable {prog:j0}{w:w5}{A:A3}{E:b9->d9->Prop}{s:d9}{rk:y6->Int}{M:y6->Prop}{κ:dh}
end
end So
namespace L2
open PySem PySem.Spec PyProof.Rows HT
section
variable {X:Cx}{H:Hp}
end
end L2
namespace L2
open PySem PySem.Spec PyProof.Rows
section
variable {X:Cx}
open Classical in
end
section
variable {X:Cx}
end
section
variable {prog:j0}{w:w5}{A:A3}{R:fZ->d9->Prop}{s:d9}
def uM {u y a iter:Expr}{scope:O9}{pos:Pos}{it:b9}{D:Addr}{env:Env} (I:Nat->d9->Prop)
  (k:∀n s,I n s->j8 (n6 prog w) A (Y3 it) (λr b=>match r with
   | none=>R (.ok .next) b
   | some v=>j8 (n6 prog w) A (cB a it v) (λ_ c=>j8 (n6 prog w) A (fY a env v) (λ_ l =>
      j8 (n6 prog w) A (eval u env) (λz e=>j8 (n6 prog w) A (eval y env) (λB f =>
       j8 (n6 prog w) A (dictSet D z B) (λ_ g=>∃m,m<n/\I m g) (λ_ _=>False) f) (λ_ _=>False) e) (λ_ _=>False) l) (λ_ _=>False) c) (λ_ _=>False) b) (λ_ _=>False) s)
  (n:Nat) (h:I n s):
  Z2 (n6 prog w) A (.compLoop (.DictComp u y [⟨a,iter,[],0⟩] scope pos) 0 it (.ref D) env) R s:=by
 refine KO rfl I (λn s E=>?_) n h;show j8 _ A ((compTurn (.DictComp u y [⟨a,iter,[],0⟩] scope pos) 0 it (.ref D) env).onRaise (λx=>do fC x env;Ak x)) _ _ s;refine Oe ?_;rw[compTurn_dict];refine b7 (cF (b7 (C4 (k n s E) (λr b i=>?_) λ_ _ d=>d.elim)));cases r with
 | none=>exact f9 i
 | some v =>
  refine b7 (C4 i (λ_ c j=>?_) λ_ _ d=>d.elim);refine b7 (C4 j (λ_ C o=>?_) λ_ _ d=>d.elim);simp only[fe];refine b7 (f9 ?_);simp only[if_true];refine b7 (b7 (C4 o (λz e p=>b7 (F2 (C4 p (λB f q=>b7 (cF (F2 (C4 q (λ_ g t=>f9 ⟨rfl,t⟩) λ_ _ d=>d.elim)))) λ_ _ d=>d.elim))) λ_ _ d=>d.elim))
end
section
variable {X:Cx}{pins:List (Addr × Obj)}{σ:St}{H H':Hp}{s s':d9}{scope:O9}{N:List Str}{fp:List Addr}
def D1.comp_endD {pins':List (Addr × Obj)}{h:St}{h':Heap} (I:D1 X pins σ H s) (J:D1 (X.comp scope N s H fp) pins' h H' s') (f:∀b∈fp,gZ X pins H b)
  (hs:F5 s.heap.objs.size s'.heap h'):D1 X pins σ H' { s' with heap:=h' }:=by
 have a:∀b,b<s.heap.objs.size->b≠s.heap.objs.size:=λb d=>y7 d;have U:=J.base;have un:Un (fR X.stack) fp H H' s.heap h':=by
  refine⟨λb o e n d g=>?_,λb o e n d g=>?_,λb o e n g=>?_,λb o e g=>?_,λb j e=>?_,λb o u e=>?_,λb l e=>?_⟩
  .exact(hs.2 b (a b (i5 e))).trans (U.keep b o e n d g)
  .obtain⟨sl,q⟩:=U.slot b o e n d g;exact⟨sl,(hs.2 b (a b (i5 e))).trans q⟩
  .exact U.free b o e n g
  .obtain⟨m,q⟩:=U.there b o e g;exact⟨m,(hs.2 b (a b (i5 e))).trans q⟩
  .exact U.tups b j e
  .exact U.frzs b o u e
  .exact U.tbls b l e
 have k:H' s.heap.objs.size=none:=J.free;have i:dQ X.prog X.w H' h':=λb u e=>by
  refine (J.hok b u e).stay (λc v p q=>(hs.2 c ?_).trans q) (λc q=>q) λc j q=>q;rintro rfl;obtain z|z:=p
  .rw[<- z,k] at e;cases e
  .rw[k] at z;cases z
 exact I.call' (s':={ s' with heap:=h' }) (ch:=fp) J.os un i J.bare λb d=>⟨(f b d).2.2.2.1,(f b d).2.1,(f b d).2.2.2.2.1,(f b d).2.2.2.2.2⟩
end
section
variable {X:Cx}{scope:O9}{N:List Str}{ix:List (Option Nat)}{kx vx target iter:Expr}{pos:Pos}{wi:TI}{g:TG}{tk tv:TE}
def Rg (J:It) (c:St) (g:TG) (tk tv:TE) (p:Addr) (n:Hp) (F:Hp->Prop):Prop:=∃W:Nat->Nat->Hp->Prop,(∃m,W 0 m n)/\∀i m d,W i m d ->
 ((J.stop i d/\F d) ∨
  (J.go i d/\∃e:Hp->Prop,(∀H,e H->∃f,f<m/\W (i+1) f H) /\
    ∀x h,J.yld i d x h->g x c h λa o=>Wk c a/\tk a o λy q=>tv a q λv j=>∃l,(∃b k,j p=some (.dK b)/\y=kV k/\b.length<j6/\l=C3 j p (.dK (aK b k v)))/\e l))
abbrev gy (s:d9):d9:={ s with heap:=s.heap.push { cls:=.type "dict",data:=.dict #[] } }
def Fy (s:d9):(gy s).heap.objs.size=s.heap.objs.size+1:=D7 ..
variable {H:Hp}
def MQ {c:List (Addr × Obj)}{m:St}{s:d9}{a:Addr}{kvs:List (O0 × V)}{k:O0}{v:V}{u r:b9}{E:b9->d9->Prop}{Q:Unit->d9->Prop}{A:A3} (I:D1 X c m H s) (e:H a=some (.dK kvs)) (l:kvs.length<j6) (o:K3 (kV k) u) (rv:K3 v r) (h:∀i,D1 X c m (C3 H a (.dK (aK kvs k v))) i->(∀b q,b≠a->s.heap.get? b=some q->i.heap.get? b=some q)->Q () i):
  j8 (n6 X.prog X.w) A (dictSet a u r) Q E s:=by
 obtain⟨z,p,t,d,dd⟩:=NV I.hok e;have w:t.length<=j6:=by rw[<- d.length];exact z
 have x:(aK kvs k v).length<=j6:=by have:=kU kvs k v;lia
 refine wpAny_dictSet_pairs (hsz:=w) (tH o) dd λy f n=>h _ ?_ (λb q B j=>(n.2 b B).trans j);have C:∃q,y.get? a=some q:=let ⟨q,_,_,j,_⟩:=f;⟨q,j⟩
 exact rG I (by rw[e];exact ak) n C (JO x p (d.put k rv) f)
def Ff {h:List (Addr × Obj)}{t:St}{s:d9}{it:Addr}{a:List Addr}{tn:Nat->Heap->Prop}{J:It}{F:Hp->Prop}{E:b9->d9->Prop}{RR:b9->Addr->fZ->d9->Prop}
  (hc:X.calm=true) (hk:scope.kind=.function) (a0:gs scope=true) (hf:aZ scope X.env=true) (hx:iX scope X.N N ix=true)
  (hg:∀s H L,PG (X.comp scope N s H L) target g) (a1:∀s H L,PE (X.comp scope N s H L) kx tk) (a2:∀s H L,PE (X.comp scope N s H L) vx tv)
  (I:D1 X h t H s) (T:pV X.prog X.w X.K target J a it tn) (st:tn 0 s.heap) (a3:∀b∈a,gZ X h H b) (B:Rg J (cu ix t) g tk tv s.heap.objs.size (C3 H s.heap.objs.size (.dK [])) F)
  (fin:∀(H':Hp) (s':d9) (a4:St),D1 X h t (C3 H s.heap.objs.size (.dK [])) (gy s)->(∀b∈a,gZ X h (C3 H s.heap.objs.size (.dK [])) b)->D1 (X.comp scope N (gy s) (C3 H s.heap.objs.size (.dK [])) a) [] a4 H' s'->F H'->RR (.ref s.heap.objs.size) (gy s).heap.objs.size (.ok .next) s'):
  j8 (n6 X.prog X.w) X.A newDict (λM O=>j8 (n6 X.prog X.w) X.A (km scope X.env.globals (Y0 X.env scope.names []) [] X.env.qual none .none (some X.env)) (λw P =>
   Z2 (n6 X.prog X.w) X.A (.compStart (.DictComp kx vx [⟨target,iter,[],0⟩] scope pos) 0 (.ref it) M { w with scope:=nM scope X.env }) (RR M w.locals) P) E O) E s:=by
 obtain⟨W,⟨m0,w0⟩,Q⟩:=B;have I1:D1 X h t (C3 H s.heap.objs.size (.dK [])) (gy s):=I.laid (a:=s.heap.objs.size) (o:=.dK []) (h':=s.heap.push { cls:=.type "dict",data:=.dict #[] }) (t':=s.toks) (λ_ _ q=>f6 _ q) (i4 _) (JQ s.heap I.big);refine E4 (kS ?_) (by show (#[]:Array J2).size<=_;exact A6 _);have A:∀b∈a,b<s.heap.objs.size:=λb f=>let ⟨o,e,_⟩:=T.obj 0 _ st b f;i5 e
 generalize a5:C3 H s.heap.objs.size (.dK [])=j at *;have l:∀b∈a,gZ X h j b:=λb f=>by obtain⟨f0,f1,f2,f3,f4,f5⟩:=a3 b f;refine⟨?_,f1,f2,f3,f4,f5⟩;rw[<- a5,t9 (y7 (A b f))];exact f0
 have J0:D1 (X.comp scope N (gy s) j a) [] (cu ix t) j _:=I1.comp (N:=N) (ix:=ix) (ex:=a) hk a0 hf hx λb f=>by obtain⟨f0,f1,f2,f3,f4,_⟩:=l b f;exact⟨f0,f1,f2,f3,f4,by rw[Fy];exact M8 (A b f)⟩
 have D:∀b o,(gy s).heap.get? b=some o->(bK ((gy s).heap.push { cls:=.type "dict",data:=.dict #[] }) scope.names).get? b=some o:=λb o e=>jh _ _ b o (f6 _ e);have R:tn 0 (bK ((gy s).heap.push { cls:=.type "dict",data:=.dict #[] }) scope.names):=T.keep 0 _ _ st λb f o e=>D b o (f6 _ e);have S:∀b∈a,b≠(X.comp scope N (gy s) j a).env.locals/\b ∉ (X.comp scope N (gy s) j a).fs /\
   ∀x c,(X.comp scope N (gy s) j a).env.cells.lookup x=some c->c≠b:=λb f=>⟨(J0.ok.exf b f).1,J0.ok.exfs b f,(J0.ok.exf b f).2⟩
 have m:∀{H':Hp},(∀b∈a,H' b=none)->∀b∈a,gZ (X.comp scope N (gy s) j a) [] H' b:=λ{H'} hn b f=>by obtain⟨e1,e2,e3⟩:=S b f;exact⟨hn b f,e1,e2,.inl f,e3,λp hp=>Zy (show p∈([]:List (Addr × Obj)) from (ZX.mp hp).elim (λz=>z) id) (by simp)⟩
 have C:Z2 (n6 X.prog X.w) X.A (.compLoop (.DictComp kx vx [⟨target,iter,[],0⟩] scope pos) 0 (.ref it) (.ref s.heap.objs.size) (X.comp scope N (gy s) j a).env) (RR (.ref s.heap.objs.size) (gy s).heap.objs.size)
   { gy s with heap:=bK ((gy s).heap.push { cls:=.type "dict",data:=.dict #[] }) scope.names }:=by
  refine uM (λn s'=>∃i H',D1 (X.comp scope N (gy s) j a) [] (cu ix t) H' s'/\tn i s'.heap/\(∀b∈a,H' b=none)/\W i n H') ?_ m0
   ⟨0,j,J0,R,λb f=>(l b f).1,w0⟩
  rintro n s3 ⟨i,H3,I3,U,V,w3⟩;obtain⟨stop,fy⟩|⟨go,Ny,a6,step⟩:=Q i n H3 w3
  .refine S6 (T.done (X.comp scope N (gy s) j a) rfl rfl rfl hc i _ s3 (cu ix t) H3 (λ_ _=>False) I3 (m V) U stop) λr s4 ⟨hr,I4⟩=>?_;subst hr;exact fin H3 s4 _ I1 l I4 fy
  .refine S6 (T.item (X.comp scope N (gy s) j a) rfl rfl rfl hc i _ s3 (cu ix t) H3 (λ_ _=>False) I3 (m V) U go) λr s4 ⟨u,hr,h4⟩=>?_;subst hr;refine S6 h4 λ_ s5 ⟨x,H5,I5,r5,y5,K,a7⟩=>?_;have a8:=I5.pinned (m a7) (T.obj _ _ K);refine S6 (hg (gy s) j a _ s5 (cu ix t) H5 x u _ a8 r5 (step x H5 y5)) λ_ s6 ⟨Y,H6,I6,Z,q6⟩=>?_;refine S6 (a1 (gy s) j a _ s6 Y H6 _ I6 q6) λkv s7 ⟨y,H7,I7,r7,q7⟩=>?_;refine S6 (a2 (gy s) j a _ s7 Y H7 _ I7 q7) λvv s8 ⟨v,H8,I8,r8,q8⟩=>?_;obtain⟨H9,⟨ab,k,hD,ey,hl,e9⟩,a9⟩:=q8;subst ey e9;refine MQ (X:=X.comp scope N (gy s) j a) (A:=X.A) I8 hD hl r7 r8 λs9 I9 ac=>?_;obtain⟨m',hm,w9⟩:=a6 _ a9;refine⟨m',hm,i+1,_,(I9.weak Z.1 Z.2).pins_of (λp hp=>by cases hp),?_,λb f=>?_,w9⟩
   .exact T.keep _ _ _ K λb f o e=>(I9.pin (b,o) (i9 _ (i9 _ (X3 f e)))).1
   .obtain⟨o,e,d⟩:=T.obj _ _ K b f;exact(I9.pin (b,o) (i9 _ (i9 _ (X3 f e)))).2.1
 exact codeAny_compStart_dict C (T.self _ 0 _ _ _ R C)
def tT:eval (.DictComp kx vx [⟨target,iter,[],0⟩] scope pos) env=comprehension (.DictComp kx vx [⟨target,iter,[],0⟩] scope pos) scope env (firstIterPos [⟨target,iter,[],0⟩] pos) newDict (firstAsync [⟨target,iter,[],0⟩]) (firstIter [⟨target,iter,[],0⟩] env):=arm_eval_DictComp ..
def Ip (D:X.calm=true) (E:PI X target iter wi) (K:∀s H b,PG (X.comp scope N s H b) target g) (i:∀s H b,PE (X.comp scope N s H b) kx tk) (j:∀s H b,PE (X.comp scope N s H b) vx tv)
  (r:scope.kind=.function) (c:gs scope=true) (t:aZ scope X.env=true) (k:iX scope X.N N ix=true) (hs:∀x,fV iter X.env x=pure x):
  PE X (.DictComp kx vx [⟨target,iter,[],0⟩] scope pos) (λd H Q=>wi d H λJ u=>∀p,u p=none->Rg J (cu ix d) g tk tv p (C3 u p (.dK [])) λw=>Q (.ref p) w):=by
 intro a s d H Q I h;rw[tT];refine eF (use:=none) rfl hs (cM (I.closed t)) r (λx k L=>(fu c k).trans (by rw[L])) ?_;refine S6 (E a s d H _ I h) λv Z M=>S6 M λO y P=>?_;obtain⟨it,fp,tn,J,w,e,z,T,l,R,B⟩:=P;subst e;have n:=z.hok.fresh (i4 y.heap.objs.size);refine Ff (RR:=λo C=>DP (n6 X.prog X.w) X.A X.xe none (EP X a d Q) o C) D r c t k K i j z T l R (B _ n) ?_;intro H' s' S U f A V;obtain⟨m,Y,_⟩:=A.loc;exact⟨m,Y,λh' q=>⟨.ref y.heap.objs.size,_,U.comp_endD A f q,rfl,V⟩⟩
def Cb {lo:Int}{n:Nat}{a:St}{p:Addr}{F:Hp->Prop} (Pv:Nat->Hp->Prop) (l:Pv 0 H) (d:a[0]?=some none)
  (hs:∀i H,i<n->Pv i H->tk (a.set 0 (some (.int (lo+i)))) H λy o=>tv (a.set 0 (some (.int (lo+i)))) o λv f=>∃h,(∃b k,f p=some (.dK b)/\y=kV k/\b.length<j6/\h=C3 f p (.dK (aK b k v)))/\Pv (i+1) h) (hd:∀H,Pv n H->F H):Rg (Ob lo n) a (V5 0) tk tv p H F:=by
 refine⟨λi m H=>m=n - i/\i<=n/\Pv i H,⟨n,by simp,A6 _,l⟩,?_⟩;rintro i m r ⟨rfl,s,q⟩;by_cases c:i<n
 .refine .inr ⟨c,λj=>Pv (i+1) j,λj q=>⟨n - (i+1),by lia,rfl,c,q⟩,λx t y=>?_⟩;obtain⟨rfl,rfl⟩:=y;exact⟨Wk.set (.inl d),hs i _ c q⟩
 .have e:i=n:=by lia
  subst e;exact .inl ⟨i4 _,hd r q⟩
end
section
variable {X:Cx}
theorem yp:∀{ys:List Str}{us:List b9},J9 (ys.map V.str) us->StrsAre us ys
 | [],_,h=>by cases h;exact .nil
 | y::ys,_,h=>by
  cases h with
  | cons r a =>
   obtain⟨t,rfl⟩:=r;exact .cons y t (yp a)
theorem vc:∀(k:Nat) (ys:List Str),J9 (ys.map V.str) (strsFrom k ys)
 | _,[]=>.nil
 | k,y::ys=>.cons ⟨_,rfl⟩ (vc (k+1) ys)
def SJ (K:m9):V->List V->Hp->VK->Prop:=λx c H Q=>∃(a:Str) (p:Addr) (b:List Str),x=.str a/\c=[.ref p]/\jc K H p (b.map V.str)/\(b.map λy=>y.length).sum+b.length*a.length<=16777216/\Q (.str (C1 a b)) H
def iG:RF X "str.join" (SJ X.K):=by intro a s l H x m v n Q I b c h;obtain⟨d,p,o,rfl,rfl,e,f,q⟩:=h;obtain⟨t,rfl⟩:=b;obtain⟨u,rfl,g⟩:=c.one;cases g;obtain⟨i,r,j,_⟩:=I.list e;exact join_list j.isList (by simpa using yp r) f λw k=>⟨.str _,H,I.tok k,⟨_,rfl⟩,q⟩
def Px:V->List V->Hp->VK->Prop:=λx c H Q=>∃(a b:Str),x=.str a/\c=[.str b]/\(b.length == 0)=false/\a.length<=900/\∀p,H p=none->Q (.ref p) (C3 H p (.lst ((B1 a b).map V.str)))
def sS:RF X "str.split" Px:=by
 intro d s o H x C v D Q I p r h;obtain⟨a,b,rfl,rfl,m,w,q⟩:=h;obtain⟨t,rfl⟩:=p;obtain⟨u,rfl,y⟩:=r.one;obtain⟨n,rfl⟩:=y;have z:=I.hok.fresh (i4 s.heap.objs.size);have big:=sz (show 1000<=1000 by decide);have f:∀(c:List b9) (k:Nat),J9 ((B1 a b).map V.str) c->(B1 a b).length<=j6->EP X d o Q (.ref s.heap.objs.size) { s with heap:=s.heap.push { cls:=.type "list",data:=.seq c.toArray },toks:=k }:=λc k A j =>
  ⟨.ref s.heap.objs.size,_,I.laid (a:=s.heap.objs.size) (o:=.lst ((B1 a b).map V.str)) (t':=k) (λ_ _ q=>f6 _ q) (i4 _) ⟨by rw[d8];exact j,c,0,A,j7 _ rfl⟩,rfl,q _ z⟩
 have one:∀k,B1 a b=[a]->EP X d o Q (.ref s.heap.objs.size) { s with heap:=s.heap.push { cls:=.type "list",data:=.seq #[cI a t] },toks:=k }:=λk e=>by have:=f [cI a t] k (by rw[e];exact .cons ⟨t,rfl⟩ .nil) (by rw[e];exact j9 (show 1<=1000 by decide) big);exact this
 by_cases g:(decide (a.length<b.length) || decide (X2 a<X2 b))=true
 .have e:B1 a b=[a]:=by unfold B1;rw[ZB g]
  refine uw Y4 (hZ s a t) jF (ji _ _) (meets_str_split_cannot_occur a b t n g) (one _ e)
 .have i:=Bool.eq_false_iff.mpr g;by_cases l:(C9 a b 0 a.length (a.length+1)).isEmpty=true
  .have e:B1 a b=[a]:=by unfold B1;rw[ZC g,ZB l]
   refine uw Y4 (hZ s a t) jF (ji _ _) (meets_str_split_not_found a b t n i m l) (one _ e)
  .have e:B1 a b=rL a (C9 a b 0 a.length (a.length+1)) b.length:=by unfold B1;rw[ZC g,ZC l]
   have j:(rL a (C9 a b 0 a.length (a.length+1)) b.length).length<=j6:=by have B:=nK a b (by have:=bne_iff_ne.mp (show (b.length != 0)=true by unfold bne;rw[m];rfl);lia);rw[e] at B;exact j9 (show _<=1000 by lia) big
   refine uw Y4 (hZ s a t) jF (ji _ _) (meets_str_split_sep a b t n i m (Bool.eq_false_iff.mpr l) (j9 w (j9 (by decide) big)) j) ?_;rw[<- e];exact f _ _ (vc _ _) (by rw[e];exact j)
abbrev TJx:=St->Hp->(Str->Hp->Prop)->Prop
def V3 (a b c:Str):a++b++c=a++(b++c):=Zu RU oX
def Cw (a:Str):a++aj=a:=Zu RU Array.append_empty
def RE (X:Cx) (es:List Expr) (n:Nat) (t:TJx):Prop :=
 ∀(b:Str),b.length<=n->∀(a:List (Addr × Obj)) (s:d9) (c:St) (H:Hp) (Q:Str->Hp->Prop),D1 X a c H s->t c H Q ->
  j8 (n6 X.prog X.w) X.A (qZ b (vS es X.env)) (λu e=>∃z d,D1 X a c d e/\K3 (.str (b++z)) u/\Q z d) X.xe s
section
variable {es:List Expr}{n:Nat}{t:TJx}
def LN (h:n<=j6:=by decide):RE X [] n (λ_ H Q=>Q aj H):=by intro b c a s d H Q I q;exact joinParts_nil (s:=s) ⟨aj,H,I.tok _,by rw[Cw];exact⟨_,rfl⟩,q⟩ (j9 c h)
def LM {x:Str}{j:Nat}{pos:Pos} (h:RE X es (n+x.length) t) (hz:n+x.length<=j6:=by decide):RE X (.Constant (.str x) j pos::es) n (λc H Q=>t c H λz d=>Q (x++z) d):=by
 intro a g b s c H Q I q;show j8 _ _ (qZ a (eval (.Constant (.str x) j pos) X.env::vS es X.env)) _ _ _;refine qK (oU ⟨?_,?_⟩)
 .rw[A9];lia
 .exact S6 (h (a++x) (by rw[A9];lia) b _ c H _ (I.tok _) q) λu i ⟨z,d,e,r,f⟩=>⟨x++z,d,e,by rw[<- V3];exact r,f⟩
def Ik {d f:Expr}{aW:List Expr}{pos:Pos} (h:RE X (d::f::aW) 0 t):PE X (.JoinedStr (d::f::aW) pos) (λb H Q=>t b H λz c=>Q (.str z) c):=by intro a s b H Q I q;refine JoinedStr_many (S6 (h aj (i4 _) a s b H _ I q) λu j ⟨z,c,g,r,i⟩=>⟨.str z,c,g,?_,i⟩);have e:aj++z=z:=Zu RU Array.empty_append;rw[e] at r;exact r
end
end
def jl (c:Nat):List (List Nat)->List Nat
 | []=>[]
 | [p]=>p
 | p::q::r=>p++c::jl c (q::r)
theorem DA {c:Nat}:∀{p q u v:List Nat},c ∉ p->c ∉ q->p++c::u=q++c::v->p=q/\u=v
 | [],[],_,_,_,_,h=>⟨rfl,(fh h).2⟩
 | [],b::q,_,_,_,d,h=>by
  have:=(fh h).1;exact Zy (by rw[this];exact f7) d
 | a::p,[],_,_,e,_,h=>by
  have:=(fh h).1;exact Zy (by rw[<- this];exact f7) e
 | a::p,b::q,_,_,e,d,h=>by obtain⟨f,g⟩:=fh h;obtain⟨e1,e2⟩:=DA (λz=>e (g0 _ z)) (λz=>d (g0 _ z)) g;exact⟨by rw[f,e1],e2⟩
theorem Ju {c:Nat}:∀{ps a:List (List Nat)},ps≠[]->a≠[]->(∀p∈ps,c ∉ p)->(∀p∈a,c ∉ p)->jl c ps=jl c a->ps=a
 | [],_,h,_,_,_,_=>Zy rfl h
 | _,[],_,h,_,_,_=>Zy rfl h
 | [p],[q],_,_,_,_,e=>by rw[show p=q from e]
 | [p],q::g::a,_,_,d,_,e=>by
  have b:p=q++c::jl c (g::a):=e;exact Zy (by rw[b];simp) (d p f7)
 | p::i::ps,[q],_,_,_,f,e=>by
  have b:p++c::jl c (i::ps)=q:=e;exact Zy (by rw[<- b];simp) (f q f7)
 | p::i::ps,q::g::a,_,_,d,f,e=>by have b:p++c::jl c (i::ps)=q++c::jl c (g::a):=e;obtain⟨e1,e2⟩:=DA (d p f7) (f q f7) b;have:=Ju (by simp) (by simp) (λx j=>d x (g0 _ j)) (λx j=>f x (g0 _ j)) e2;rw[e1,this]
theorem gv (c:Nat):∀a:List Str,(bR ⟨#[c]⟩ a).cps.toList=jl c (a.map λy=>y.cps.toList)
 | []=>rfl
 | [y]=>by rw[aE];rfl
 | x::y::r=>by rw[E3];have b:=gv c (y::r);show ((x.cps++#[c])++(bR ⟨#[c]⟩ (y::r)).cps).toList=_;simp only[D3,b];show _=x.cps.toList++c::jl c ((y::r).map λy=>y.cps.toList);simp
theorem JV (d:E7):∀l:List E7,0<=lD d l
 | []=>by unfold lD;decide
 | a::l=>by have:=JV d l;unfold lD;split <;> lia
theorem Dx {c:Nat}:∀{l:List Nat},c∈l->lD (.str ⟨#[c]⟩) (l.map λn=>.str ⟨#[n]⟩)≠0
 | a::l,h=>by
  have d:=JV (.str ⟨#[c]⟩) (l.map λn=>.str ⟨#[n]⟩);rw[t8];unfold lD;by_cases e:c=a
  .subst e;have:Spec.same (.str ⟨#[c]⟩) (.str ⟨#[c]⟩)=true:=by unfold Spec.same;simp
   rw[this];simp only[if_true];lia
  .have b:c∈l:=(C7.mp h).resolve_left e;have:=Dx b;split <;> lia
def lK {a b:Str} (h:a.cps.toList=b.cps.toList):a=b:=by
 cases a with
 | mk x=>cases b with
  | mk y=>exact Zu RU (ZP.mp h)
def jH {c:Nat}{ys:List Str} (g:ys≠[]) (b:∀y∈ys,c ∉ y.cps.toList):B1 (bR ⟨#[c]⟩ ys) ⟨#[c]⟩=ys:=by
 have h:=split_closes (bR ⟨#[c]⟩ ys) c;rw[A4] at h;obtain⟨i,j⟩:=h;have e:=LawfulBEq.eq_of_beq i;have a:B1 (bR ⟨#[c]⟩ ys) ⟨#[c]⟩≠[]:=λz=>by have:=split_pos (bR ⟨#[c]⟩ ys) ⟨#[c]⟩;rw[z] at this;exact Zy this (by decide)
 have f:∀y∈B1 (bR ⟨#[c]⟩ ys) ⟨#[c]⟩,c ∉ y.cps.toList:=λy b k=>by have z:=kF.mp j y b;rw[ZA (Dx k)] at z;cases z
 generalize B1 (bR ⟨#[c]⟩ ys) ⟨#[c]⟩=l at e a f;have e2:jl c (l.map λy=>y.cps.toList)=jl c (ys.map λy=>y.cps.toList):=by rw[<- gv,<- gv,e]
 have e3:=Ju (by simpa using a) (by simpa using g) (λp a=>by obtain⟨y,b,z⟩:=ZY.mp a;rw[<- z];exact f y b) (λp a=>by obtain⟨y,d,z⟩:=ZY.mp a;rw[<- z];exact b y d) e2;exact(List.map_inj_right λx y h=>lK h).mp e3
def mW:E7->Bool
 | .str _=>true
 | _=>false
def Mw (K:m9) (d:E7):dR K (.type (Rv d)) (.type "str")=some (mW d):=by cases d <;> kernel_rfl
end L2
namespace G
open PySem PySem.Spec PyProof.Rows L2 Mt
structure KD (mg:Str->Option b9):Prop where
 str:mg "str"=none
def tx (i:Int):Str:=K9 (toString i)
def OC:∀i:Fin 41,(tx (i.1:Int)).cps.toList.contains 44=false/\(tx (i.1:Int)).cps.toList.contains 47=false/\(tx (i.1:Int)).length<=2:=by decide
def Lr:∀i j:Fin 21,tx (i.1:Int)=tx (j.1:Int)->i=j:=by decide
def nY {i:Int} (c:0<=i) (h:i<=40):44 ∉ (tx i).cps.toList/\47 ∉ (tx i).cps.toList/\(tx i).length<=2:=by have e:((i.toNat:Nat):Int)=i:=Int.toNat_of_nonneg c;have:=OC ⟨i.toNat,by lia⟩;dsimp only at this;rw[e] at this;obtain⟨a,b,d⟩:=this;exact⟨λz=>(by rw[ZF.mpr z] at a;cases a),λz=>(by rw[ZF.mpr z] at b;cases b),d⟩
def OD {i j:Nat} (a:i<=20) (b:j<=20) (h:tx (i:Int)=tx (j:Int)):i=j:=by have:=Lr ⟨i,by lia⟩ ⟨j,by lia⟩ h;exact Zu Fin.val this
def Je {i:Int} (a:0<=i) (h:i<=1000):i.natAbs.log2<1920:=by
 obtain e|e:=qL i.natAbs
 .rw[e];decide
 .exact B5 ((gH (by lia)).mpr (show i.natAbs<2 ^ 10 by lia)) (by decide)
theorem zh (g:Array Nat):∀(ps:List Str) (a b:Array Nat),jg (λc (p:Str)=>c++g++p.cps) (a++b) ps=a++jg (λc (p:Str)=>c++g++p.cps) b ps
 | [],_,_=>rfl
 | p::ps,a,b=>by rw[lZ,lZ,<- zh g ps a (b++g++p.cps)];simp[oX]
theorem G5 (a:Str):∀c:List Str,C1 a c=bR a c
 | []=>rfl
 | [y]=>by rw[aE];rfl
 | x::y::r=>by rw[E3,<- G5 a (y::r)];show (⟨jg (λb (p:Str)=>b++a.cps++p.cps) x.cps (y::r)⟩:Str)=⟨(x.cps++a.cps)++jg (λb (p:Str)=>b++a.cps++p.cps) y.cps r⟩;rw[lZ,zh]
def nT (ns:List Int):Str:=C1 "," (ns.map tx)
def rT (rs:List (List Int)):Str:=C1 "/" (rs.map nT)
def jv:(",":Str)=⟨#[44]⟩:=by decide
def ql:("/":Str)=⟨#[47]⟩:=by decide
def vA:(",":Str).length=1:=by rw[jv];rfl
def lO:("/":Str).length=1:=by rw[ql];rfl
variable {ns:List Int}
def rV (a:ns≠[]) (h:∀x∈ns,0<=x/\x<=20):B1 (nT ns) ","=ns.map tx:=by unfold nT;rw[G5,jv];refine jH (by simpa using a) λy b=>?_;obtain⟨x,c,e⟩:=ZY.mp b;have:=h x c;rw[<- e];exact(nY this.1 (by lia)).1
theorem sV {c d:Nat}:∀{ps:List (List Nat)},d∈jl c ps->d=c ∨ ∃p∈ps,d∈p
 | [],h=>by cases h
 | [p],h=>.inr ⟨p,f7,h⟩
 | p::q::r,h=>by
  have a:d∈p++c::jl c (q::r):=h;obtain z|z:=ZX.mp a
  .exact .inr ⟨p,f7,z⟩
  .rcases C7.mp z with z|z
   .exact .inl z
   .rcases sV z with z|⟨b,e,f⟩
    .exact .inl z
    .exact .inr ⟨b,g0 _ e,f⟩
def Bu (h:∀x∈ns,0<=x/\x<=20):47 ∉ (nT ns).cps.toList:=λz=>by
 unfold nT at z;rw[G5,jv,gv] at z;obtain e|⟨p,a,b⟩:=sV z
 .cases e
 .rw[R8] at a;obtain⟨x,c,e⟩:=ZY.mp a;have:=h x c;subst e;exact(nY this.1 (by lia)).2.1 b
variable {rs:List (List Int)}
def yq (a:rs≠[]) (h:∀r∈rs,∀x∈r,0<=x/\x<=20):B1 (rT rs) "/"=rs.map nT:=by unfold rT;rw[G5,ql];refine jH (by simpa using a) λy b=>?_;obtain⟨x,c,e⟩:=ZY.mp b;rw[<- e];exact Bu (h x c)
theorem BO {c m:Nat}:∀{ps:List (List Nat)},(∀p∈ps,p.length<=m)->(jl c ps).length<=(m+1)*ps.length
 | [],_=>by simp[jl]
 | [p],h=>by
  have:=h p f7;show p.length<=(m+1)*1;lia
 | p::q::r,h=>by have b:=h p f7;have d:=BO (c:=c) (ps:=q::r) λx a=>h x (g0 _ a);show (p++c::jl c (q::r)).length<=_;rw[y9,n5,n5 (a:=p),bE];lia
def BL (g:ns.length<=4) (h:∀x∈ns,0<=x/\x<=20):(nT ns).length<=12:=by
 have a:(jl 44 ((ns.map tx).map λy=>y.cps.toList)).length<=3*((ns.map tx).map λy=>y.cps.toList).length:=BO (m:=2) λp b=>by obtain⟨y,c,e⟩:=ZY.mp b;obtain⟨x,d,e2⟩:=ZY.mp c;have:=h x d;have f:=(nY this.1 (by lia)).2.2;rw[<- e,<- e2,u9];exact f
 rw[<- gv,<- jv,<- G5,d8,d8] at a;have e:(nT ns).length=(C1 "," (ns.map tx)).cps.toList.length:=by rw[u9];rfl
 lia
def Jm (g:rs.length<=4) (h:∀r∈rs,r.length<=4/\∀x∈r,0<=x/\x<=20):(rT rs).length<=52:=by
 have a:(jl 47 ((rs.map nT).map λy=>y.cps.toList)).length<=13*((rs.map nT).map λy=>y.cps.toList).length:=BO (m:=12) λp b=>by obtain⟨y,c,e⟩:=ZY.mp b;obtain⟨x,d,e2⟩:=ZY.mp c;have:=h x d;have f:=BL this.1 this.2;rw[<- e,<- e2,u9];exact f
 rw[<- gv,<- ql,<- G5,d8,d8] at a;have e:(rT rs).length=(C1 "/" (rs.map nT)).cps.toList.length:=by rw[u9];rfl
 lia
theorem dH {m:Nat}:∀{ys:List Str},(∀y∈ys,y.length<=m)->(ys.map λy=>y.length).sum<=m*ys.length
 | [],_=>by simp
 | y::ys,h=>by have b:=h y f7;have c:=dH (ys:=ys) λx a=>h x (g0 _ a);rw[t8,X0,n5,bE];lia
section
variable {P:j0}{w:w5}{K:m9}{mg:Str->Option b9}{base:Heap}{f:Addr}{fd:C5}
def rZ:Sp:=λc H Q _=>∃(a:Addr) (ns:List Int),c=[.ref a]/\H a=some (.tup (ns.map V.int))/\ns.length<=4/\(∀x∈ns,0<=x/\x<=20)/\∀b,u7 H b->Q (.str (nT ns)) b
abbrev Ph:Stmt:=top 50
def SD:C6 ["numbers"] ["numbers"] (A0 Ph):=aS
def Ta (F:aU K "numbers_text" "numbers_text" Ph f fd) (z:KD mg):K6 P w K mg base ee 1 f fd ["numbers"] rZ:=by
 refine F.ok SD (λB H Q E h=>?_) (λC A l s H B Q E I h=>?_)
 .obtain⟨a,ns,rfl,_⟩:=h;rfl
 obtain⟨a,ns,rfl,r,J,t,q⟩:=h;refine⟨_,(u6 (C8 (cz E6 Q5 Q4 iG n9 (b8 (Q2 (N:=["number"]) (ix:=[none]) (ifs:=[]) (tc:=ag) rfl (mP (pv 0))
   (λs H j=>dq (i:=0) (by decide) rfl (B6 rfl) (.inr rfl)) (λs H j=>P5) (λs H j=>(G9 R0 rfl z.str dc (b8 (pv 0) i3))) rfl (by decide) (by rfl) (by rfl) (λ_=>rfl)) i3)))),?_⟩
 refine⟨rfl,_,rfl,a,rfl,⟨_,.of r⟩,?_⟩;refine jV (K:=K) (a:=a) (xs:=ns.map V.int) (sz (by rw[d8];lia)) (λi b d=>u7 H d/\b=((ns.take i).map tx).map V.str/\b.length=i)
  ⟨u7.refl _,rfl,rfl⟩ (λi b d h=>h.2.2) (λi b d _ h=>.of (h.1 _ _ r)) rfl (λi b d v u h=>?_) (λb d h=>?_)
 .obtain⟨m,c,g⟩:=h;rw[w6] at u;obtain⟨x,k,j⟩:=Zt.mp u;subst j;have n:=t x (r0 k);refine⟨_,rfl,x,rfl,Je n.1 (by lia),m,?_,by rw[y9,g];rfl⟩;rw[c,D8,k,v9,v9];rfl
 .obtain⟨m,c,g⟩:=h;rw[d8,C0 (i4 _)] at c;subst c;intro p D;have o:=dH (m:=2) (ys:=ns.map tx) λy c=>by obtain⟨x,k,e⟩:=ZY.mp c;have:=t x k;rw[<- e];exact(nY this.1 (by lia)).2.2
  rw[d8] at o;refine⟨_,p,ns.map tx,rfl,rfl,.of j3,?_,q _ (m.trans (u7.new D))⟩;rw[d8,vA];lia
end
section
variable {P:j0}{w:w5}{K:m9}{mg:Str->Option b9}{base:Heap}{f:Addr}{fd:C5}{ec:Nat->Addr}
def GD:Sp:=λc H Q _=>∃(st a:Addr) (ns:List Int) (n:Nat),c=[.ref a]/\Dt st H (DI ns) (.ref a)/\Mt.jW n 20 ns/\1<=n/\n<=4/\∀b,u7 H b->Q (.str (nT ns)) b
abbrev Pd:Stmt:=top 51
def SC:C6 ["urn"] ["urn"] (A0 Pd):=aS
def SU (F:aU K "urn_text" "urn_text" Pd f fd) (c1:Z9 P w K mg base 5 "need_urn" ["thing"] (iy ec)) (c2:Y1 P w K mg base 5 "numbers_text" ["numbers"] rZ):K6 P w K mg base ee 6 f fd ["urn"] GD:=by
 refine F.ok SC (λj H Q E h=>?_) (λk A b s H j Q E d h=>?_)
 .obtain⟨st,a,ns,n,rfl,_⟩:=h;rfl
 obtain⟨st,a,ns,n,rfl,g,c,l,m,q⟩:=h;refine⟨_,(m8 (aw (Q9 c1 d rfl iV (b8 (pv 0) i3)))
  (u6 (C8 (D9 c2 d rfl (b8 (pv 0) i3))))),?_⟩
 have t:=c.len;obtain⟨u,o,_,p⟩:=g.di;cases o;refine⟨_,rfl,_,st,_,rfl,g,jr (by lia),λ_ v i=>⟨_,rfl,a,ns,rfl,i _ _ p,by lia,c.nn,λx r=>q _ (i.trans r)⟩,λe=>?_⟩;rw[nW c l m] at e;cases e
def fT (t b:Int):Str:=if b=1 then tx t else tx t++("/"++tx b)
abbrev Po:Stmt:=top 52
def GS:C6 ["fraction","top","bottom"] ["fraction"] (A0 Po):=aS
end
def Mv (n:Nat):List (O0 × V):=(P0 n).map λj:Nat=>((B8 (tx (j:Int)):O0),V.int (j:Int))
theorem uV {b:Type} [DecidableEq b] {f:Nat->b}{g:Nat->V}{k:b}:∀{l:List Nat},(∀i∈l,f i≠k)->fI (l.map λi=>(f i,g i)) k=none
 | [],_=>rfl
 | a::l,h=>by rw[t8,gJ (h a f7)];exact uV λi c=>h i (g0 _ c)
def Mu {n:Nat} (b:n<=20):aK (Mv n) (B8 (tx (n:Int))) (.int (n:Int))=Mv (n+1):=by
 rw[HW]
 .unfold Mv;rw[Os,v9];rfl
 .exact uV (f:=λj:Nat=>(B8 (tx (j:Int)):O0)) (g:=λj:Nat=>V.int (j:Int)) λi a e=>by have c:=ZT.mp a;have:=OD (by lia) (by lia) (Rl e);lia
def qR (n:Nat) (x:Str):Option Nat:=(P0 n).find? λj:Nat=>decide ((B8 (tx (j:Int)):O0)=B8 x)
def Ew (n:Nat) (x:Str):V:=match qR n x with
 | none=>.non
 | some j=>.int (j:Int)
def oi (n:Nat):List Str->Option (List Int)
 | []=>some []
 | x::a=>match qR n x,oi n a with
  | some j,some ns=>some ((j:Int)::ns)
  | _,_=>none
def Ms (n:Nat) (x:Str):(fI (Mv n) (B8 x)).getD .non=Ew n x:=by unfold fI Mv Ew qR;rw[List.find?_map,Option.map_map];generalize b:(List.find? ((λc:O0 × V=>decide (c.1=B8 x)) ∘ λj:Nat=>((B8 (tx (j:Int)):O0),V.int (j:Int))) (P0 n))=r;have a:(P0 n).find? (λj:Nat=>decide ((B8 (tx (j:Int)):O0)=B8 x))=r:=b;rw[a];cases r <;> rfl
def Pu(h:qR n x=some j):j<n:=ZT.mp (jB h)
theorem oh {n:Nat}:∀{xs:List Str}{ns:List Int},oi n xs=some ns->xs.map (Ew n)=ns.map V.int/\ns.length=xs.length/\∀z∈ns,0<=z/\z<(n:Int)
 | [],ns,h=>by
  cases h;exact⟨rfl,rfl,by simp⟩
 | x::xs,ns,h=>by
  unfold oi at h;cases a:qR n x with
  | none=>rw[a] at h;cases h
  | some j =>
   cases b:oi n xs with
   | none=>rw[a,b] at h;cases h
   | some d =>
    rw[a,b] at h;cases h;obtain⟨e1,e2,e3⟩:=oh b;refine⟨?_,by rw[n5,n5,e2],λz c=>?_⟩
    .rw[t8,t8,e1];unfold Ew;rw[a]
    .have:=Pu a;obtain e|e:=C7.mp c
     .rw[e];lia
     .exact e3 z e
def HQ (n:Nat) (x:Str):oE (Ew n x)=true:=by unfold Ew;cases qR n x <;> rfl
theorem HR {n:Nat}:∀a:List Str,inV .non (a.map (Ew n))=(oi n a).isNone
 | []=>rfl
 | x::a=>by
  have b:=HR (n:=n) a;unfold inV at b ⊢;rw[t8,bS,b];have e:oi n (x::a)=(match qR n x,oi n a with
   | some j,some ns=>some ((j:Int)::ns)
   | _,_=>none):=rfl
  rw[e];unfold Ew;generalize oi n a=r;cases qR n x with
  | none=>simp[Ky]
  | some j=>cases r <;> simp[Ky]
def ph (t:Str):(B1 t ",").length<=t.length+1:=by have:=nK t "," (by decide);lia
section
variable {P:j0}{w:w5}{K:m9}{mg:Str->Option b9}{base:Heap}{f:Addr}{fd:C5}{ec:Nat->Addr}{Bs:Addr}
def rY (ec:Nat->Addr):Sp:=λa H Q E=>∃(st:Addr) (d:E7) (v:V),a=[v]/\Dt st H d v/\(mW d=true->Q .non H)/\(mW d=false->E (.ref (ec 9)) none H)
abbrev Hs:Stmt:=top 54
def OV:C6 ["thing"] ["thing"] (A0 Hs):=aS
def Qa (F:aU K "need_text" "need_text" Hs f fd) (B:Bt mg) (c:KD mg) (R:oJ K mg ec Bs):K6 P w K mg base (fO P w) 1 f fd ["thing"] (rY ec):=by
 refine F.okX OV (λe H Q E h=>?_) (λg A a s H e Q E l h=>?_)
 .obtain⟨st,d,v,rfl,_⟩:=h;rfl
 obtain⟨st,d,v,rfl,i,j,k⟩:=h;refine⟨_,(u6 (R3 (eP (eO (D4 (lh Mw) rfl B.isinstance K1 (b8 (pv 0) (b8 (pJ rfl c.str dc) i3))))) (u6 (aL R.e9 (R.xc 9 (by decide)) n9 (λn H Q o m q=>m _ _ q))) G0)),?_⟩;refine⟨_,rfl,v,st,d,rfl,i,_,rfl,?_⟩;cases b:mW d with
 | true=>exact Z8 (j b)
 | false=>exact aA (k b)
def CA:Sp:=λc H Q _=>∃(t:Str) (m:Nat),c=[.str t,.int m]/\m<=20/\t.length<=900/\(oi (m+1) (B1 t ",")=none->∀a,u7 H a->Q .non a) /\
 ∀ns,oi (m+1) (B1 t ",")=some ns->∀p a,u7 H a->(∀b o,H b=some o->b≠p)->a p=some (.tup (ns.map V.int))->Q (.ref p) a
abbrev Pj:Stmt:=top 53
def GP:C6 ["text","most","known","numbers"] ["text","most"] (A0 Pj):=aS
def Tb (F:aU K "numbers_read" "numbers_read" Pj f fd) (B:Bt mg) (B2:KD mg):K6 P w K mg base ee 1 f fd ["text","most"] CA:=by
 refine F.ok GP (λvs H Q E h=>?_) (λa0 A M s H vs Q E hr h=>?_)
 .obtain⟨t,m,rfl,_⟩:=h;rfl
 obtain⟨t,m,rfl,hm,hl,Y,q⟩:=h;refine⟨_,(m8 (F7 (i:=2) GP.nd rfl (iu rfl) (Ip (N:=["number"]) (ix:=[none]) rfl (Y6 rfl B.range (b8 (y8 dI (pv 1) A7) i3))
   (λs H l=>dq (i:=0) (by decide) rfl (B6 rfl) (.inr rfl)) (λs H l=>(G9 R0 rfl B2.str dc (b8 (pv 0) i3))) (λs H l=>(pv 0)) rfl (by decide) (by rfl) (by rfl) (λ_=>rfl)))
  (m8 (kR (N:=["word","known"]) (ix:=[none,some 2]) (ifs:=[]) (tc:=ag) (i:=3) rfl GP.nd rfl rfl  (cQ (cz E6 Y4 kq sS (pv 0) (b8 n9 i3)))
   (λs H l=>dq (i:=0) (by decide) rfl (B6 rfl) (.inr rfl)) (λs H l=>P5) (λs H l=>(Io (ki hr) (pv 1) (pv 0) ⟨rfl,rfl,rfl,rfl⟩)) rfl (by decide) (by rfl) (by rfl) (λ_=>rfl) (by rfl))
  (u6 (C8 (yM (J1 EA wU (pv 3) (by rfl)) wU (G9 Q3 rfl B.tuple Z6 (b8 (pv 3) i3))))))),?_⟩
 refine⟨_,rfl,_,_,rfl,rfl,((m+1:Nat):Int),rfl,by lia,by lia,λZ y=>?_⟩;rw[M9];refine Cb (lo:=0) (n:=m+1) (λi N=>u7 H N/\N Z=some (.dK (Mv i))) ⟨u7.new y,j3⟩ rfl (λi N hi h=>?_) (λJ h=>?_)
 .obtain⟨gi,O⟩:=h;have ei:(0:Int)+(i:Int)=(i:Int):=by lia
  rw[ei];refine⟨_,rfl,(i:Int),rfl,Je (by lia) (by lia),_,rfl,_,⟨Mv i,B8 (tx (i:Int)),O,rfl,?_,rfl⟩,?_,?_⟩
  .have:(Mv i).length=i:=by unfold Mv;rw[d8,fb]
   rw[this];have:=sz (show i+1<=1000 by lia);lia
  .exact λb o e=>Kp.at _ _ (λz=>by rw[z,y] at e;cases e) (gi _ _ e)
  .rw[j3,Mu (by lia)]
 obtain⟨g2,C⟩:=h;have R:=ph t;refine⟨_,rfl,rfl,t,_,rfl,rfl,by decide,hl,λp S=>?_⟩;generalize B1 t ","=a at R Y q;have T:u7 J (C3 J p (.lst (a.map V.str))):=u7.new S;have c:C3 J p (.lst (a.map V.str)) p=some (.lst (a.map V.str)):=j3;try dsimp -proj only
 generalize C3 J p (.lst (a.map V.str))=H3 at T c;have k:=T _ _ C;refine⟨p,rfl,⟨_,.of c⟩,?_⟩;refine tX (K:=K) (a:=p) (xs:=a.map V.str) (sz (by rw[d8];lia)) (λj r g=>u7 H3 g/\r=(a.take j).map (Ew (m+1))/\r.length=j)
  ⟨u7.refl _,rfl,rfl⟩ (λj r g h=>h.2.2) (λj r g _ h=>.of (h.1 _ _ c)) rfl (λj r g v hv h=>?_) (λr g h=>?_)
 .obtain⟨D,L,I⟩:=h;rw[w6] at hv;obtain⟨x,hx,l⟩:=Zt.mp hv;subst l;have hD:=jz.k (k:=B8 x) (D _ _ k);refine⟨_,rfl,Z,rfl,.inl ⟨_,.inl (D _ _ k)⟩,_,rfl,_,hD,D,?_,by rw[y9,I];rfl⟩;rw[L,D8,hx,v9,Ms];rfl
 obtain⟨D,L,I⟩:=h;rw[d8,C0 (i4 _)] at L;subst L;intro u U;have g4:u7 g (C3 g u (.lst (a.map (Ew (m+1))))):=u7.new U;have d:C3 g u (.lst (a.map (Ew (m+1)))) u=some (.lst (a.map (Ew (m+1)))):=j3;try dsimp -proj only
 generalize C3 g u (.lst (a.map (Ew (m+1))))=H4 at g4 d;have X:u7 H H4:=(g2.trans T).trans (D.trans g4);refine⟨_,rfl,u,_,rfl,.inl (.of d),rfl,?_,_,rfl,?_⟩
 .rw[Z3];exact kF.mpr λx _=>HQ _ x
 rw[HR];cases n:oi (m+1) a with
 | none=>exact aA (Y n _ X)
 | some ns =>
  refine Z8 ⟨_,rfl,u,_,rfl,.inl ⟨.of d,λt' ht=>?_⟩⟩;have e:=(oh n).1;refine q ns n t' _ (X.trans (u7.new ht)) (λb o e=>A5 (X _ _ e) ht) ?_;rw[j3,e]
end
def CF {k:Int} (a:1<=k) (b:k<=4):Sm k:=by
 have h:k=1 ∨ k=2 ∨ k=3 ∨ k=4:=by lia
 rcases h with rfl|rfl|rfl|rfl <;> (unfold Sm;decide)
def Au (t:Str):Option (List Int):=match oi 21 (B1 t ",") with
 | none=>none
 | some ns=>if aO 20 (DI ns)=true then some ns else none
def Ad:List Str->Option (List (List Int))
 | []=>some []
 | x::a=>match oi 6 (B1 x ","),Ad a with
  | some r,some rs=>some (r::rs)
  | _,_=>none
def Kx (n:Int) (t:Str):Option (List (List Int)):=match Ad (B1 t "/") with
 | none=>none
 | some rs=>if aD n (DR rs)=true then some rs else none
def wN (x:Str):E7:=match oi 6 (B1 x ",") with
 | none=>.none
 | some ns=>DI ns
theorem sv:∀{xs:List Str}{rs:List (List Int)},Ad xs=some rs->xs.map wN=rs.map DI
 | [],rs,h=>by cases h;rfl
 | x::xs,rs,h=>by
  have e:Ad (x::xs)=(match oi 6 (B1 x ","),Ad xs with
   | some r,some rs=>some (r::rs)
   | _,_=>none):=rfl
  rw[e] at h;cases a:oi 6 (B1 x ",") with
  | none=>rw[a] at h;cases h
  | some r =>
   cases b:Ad xs with
   | none=>rw[a,b] at h;cases h
   | some c =>
    rw[a,b] at h;cases h;rw[t8,t8,sv b];unfold wN;rw[a]
theorem yG:∀{xs:List Str},Ad xs=none->PyData.none∈xs.map wN
 | [],h=>by cases h
 | x::xs,h=>by
  have e:Ad (x::xs)=(match oi 6 (B1 x ","),Ad xs with
   | some r,some rs=>some (r::rs)
   | _,_=>none):=rfl
  rw[e] at h;cases a:oi 6 (B1 x ",") with
  | none =>
   rw[t8];have:wN x=.none:=by unfold wN;rw[a]
   rw[this];exact f7
  | some r =>
   cases b:Ad xs with
   | none=>exact g0 _ (yG b)
   | some c=>rw[a,b] at h;cases h
def LF(h:Kx n t=none):aD n (.tuple ((B1 t "/").map wN))=false:=by
 unfold Kx at h;cases b:Ad (B1 t "/") with
 | none =>
  cases a:aD n (.tuple ((B1 t "/").map wN)) with
  | false=>rfl
  | true =>
   have c:(decide ((((B1 t "/").map wN).length:Int)=n)&&((B1 t "/").map wN).all (λr=>X1 0 5 r&&decide ((il r:Int)=n)))=true:=a;rw[A4] at c;have:=kF.mp c.2 _ (yG b);cases this
 | some rs =>
  rw[b] at h;dsimp only at h;rw[sv b];show aD n (DR rs)=false;by_cases a:aD n (DR rs)=true
  .rw[ZB a] at h;cases h
  .exact Bool.eq_false_iff.mpr a
def HM(h:Kx n t=some rs):(B1 t "/").map wN=rs.map DI/\aD n (DR rs)=true:=by
 unfold Kx at h;cases a:Ad (B1 t "/") with
 | none=>rw[a] at h;cases h
 | some b =>
  rw[a] at h;dsimp only at h;by_cases c:aD n (DR b)=true
  .rw[ZB c] at h;cases h;exact⟨sv a,c⟩
  .rw[ZC c] at h;cases h
def Pt {t:Str}:∀x∈B1 t "/",x.length<=t.length:=λx b=>by
 have h:=nK t "/" (by decide);have:∀(l:List Str),x∈l->x.length<=(l.map λy=>y.length).sum:=λl=>by
  induction l with
  | nil=>intro h;cases h
  | cons a l c =>
   intro h;rw[t8,X0];obtain e|e:=C7.mp h
   .rw[e];lia
   .have:=c e;lia
 have d:=this _ b;have f:=lF b;lia
def AB (t:Str):(B1 t "/").length<=t.length+1:=by have:=nK t "/" (by decide);lia
section
variable {P:j0}{w:w5}{K:m9}{mg:Str->Option b9}{base:Heap}{f:Addr}{fd:C5}{ec:Nat->Addr}{Bs:Addr}
def GF (ec:Nat->Addr):Sp:=λc H Q E=>∃(st:Addr) (d:E7) (v:V),c=[v]/\Dt st H d v/\(mW d=false->∀a,u7 H a->E (.ref (ec 9)) none a) /\
 ∀t,d=.str t->t.length<=900/\(Au t=none->∀a,u7 H a->E (.ref (ec 9)) none a)/\∀ns,Au t=some ns->∀p a,u7 H a->(∀b o,H b=some o->b≠p)->a p=some (.tup (ns.map V.int))->Q (.ref p) a
abbrev Pe:Stmt:=top 55
def ND:C6 ["text","urn"] ["text"] (A0 Pe):=aS
def SV (F:aU K "urn_read" "urn_read" Pe f fd) (C:Ct mg) (R:oJ K mg ec Bs) (c1:Z9 P w K mg base 5 "need_text" ["thing"] (rY ec)) (c2:Y1 P w K mg base 5 "numbers_read" ["text","most"] CA) (c3:Y1 P w K mg base 5 "is_urn" ["thing"] jo):K6 P w K mg base (fO P w) 6 f fd ["text"] (GF ec):=by
 refine F.okX ND (λy H Q E h=>?_) (λB A g s H y Q E i h=>?_)
 .obtain⟨st,d,v,rfl,_⟩:=h;rfl
 obtain⟨st,d,v,rfl,j,D,I⟩:=h;obtain⟨tbl,k⟩:=C.balls;refine⟨_,(m8 (aw (Q9 c1 i rfl U7 (b8 (pv 0) i3)))
  (m8 (F7 (i:=1) ND.nd rfl (B6 rfl) (D9 c2 i rfl (b8 (pv 0) (b8 (Q8 (v:=.int 20) rfl k ⟨tbl,rfl⟩) i3))))
  (m8 (R3 (eP (eO (D9 c3 i rfl (b8 (pv 1) i3)))) (u6 (aL R.e9 (R.xc 9 (by decide)) n9 (λS H Q T m q=>m _ _ q))) G0)
  (u6 (C8 (pv 1)))))),?_⟩
 refine⟨_,rfl,st,d,v,rfl,j,λl=>?_,λl=>D l H (u7.refl H)⟩;obtain⟨t,J⟩:∃t,d=.str t:=by
  cases d with
  | str x=>exact⟨x,rfl⟩
  | _=>cases l
 subst J;have L:v=.str t:=by unfold Dt at j;exact j
 subst L;obtain⟨M,n,o⟩:=I t rfl;unfold Au at n o;refine⟨_,rfl,t,20,rfl,by decide,M,λe N b=>?_,λns e p N b fr r=>?_⟩
 .refine⟨_,rfl,_,0,.none,rfl,by unfold Dt;rfl,(λU z=>by cases z),λc a=>⟨_,rfl,aA ?_⟩⟩;refine n ?_ c (b.trans a);rw[e]
 .obtain⟨e1,e2,e3⟩:=oh e;have O:=ph t;refine⟨_,rfl,_,p+1,DI ns,rfl,Dt.mkI (y7 (T5 p)) r,jr (by lia),λc a=>⟨_,rfl,?_⟩⟩;cases u:aO 20 (DI ns) with
  | true =>
   refine Z8 ⟨_,rfl,o ns ?_ p c (b.trans a) fr (a _ _ r)⟩;rw[e];show (if aO 20 (DI ns)=true then some ns else none)=_;rw[u];rfl
  | false =>
   refine aA (n ?_ c (b.trans a));rw[e];show (if aO 20 (DI ns)=true then some ns else none)=_;rw[u];rfl
def GG (ec:Nat->Addr):Sp:=λc H Q E=>∃(l:Addr) (o:HO) (b d:E7) (u v:V),c=[u,v]/\H l=some o/\Dt l H b u/\Dt l H d v/\(cD 1 4 b=false->∀a,u7 H a->E (.ref (ec 5)) none a) /\
 ∀n:Int,b=.int n->1<=n->n<=4->(mW d=false->∀a,u7 H a->E (.ref (ec 9)) none a) /\
  ∀t,d=.str t->t.length<=900/\(Kx n t=none->∀a,u7 H a->E (.ref (ec 9)) none a)/\∀rs,Kx n t=some rs->∀p a,u7 H a->Dt l a (DR rs) (.ref p)->Q (.ref p) a
abbrev Pg:Stmt:=top 56
def NF:C6 ["kinds","text","rule"] ["kinds","text"] (A0 Pg):=aS
def SZ (F:aU K "rule_read" "rule_read" Pg f fd) (B:Bt mg) (C:Ct mg) (R:oJ K mg ec Bs) (c1:Z9 P w K mg base 5 "need_number" ["thing","low","high"] (bU ec)) (c2:Z9 P w K mg base 5 "need_text" ["thing"] (rY ec)) (c3:Y1 P w K mg base 5 "numbers_read" ["text","most"] CA) (c4:Z9 P w K mg base 5 "is_rule" ["kinds","thing"] (jK ec)):K6 P w K mg base (fO P w) 6 f fd ["kinds","text"] (GG ec):=by
 refine F.okX NF (λvs H Q E h=>?_) (λab A a0 s H vs Q E Z h=>?_)
 .obtain⟨l,o,dk,d,u,v,rfl,_⟩:=h;rfl
 obtain⟨l,o,dk,d,u,v,rfl,O,S,hd,q5,q9⟩:=h;obtain⟨a1,a2⟩:=C.kinds;obtain⟨a3,a4⟩:=C.puts;refine⟨_,(m8 (aw (Q9 c1 Z rfl U7 (b8 (pv 0) (b8 A7 (b8 (Q8 (v:=.int 4) rfl a2 ⟨a1,rfl⟩) i3)))))
  (m8 (aw (Q9 c2 Z rfl U7 (b8 (pv 1) i3)))
  (m8 (F7 (i:=2) NF.nd rfl (B6 rfl) (G9 Q3 rfl B.tuple Z6 (b8 (Q2 (N:=["row"]) (ix:=[none]) (ifs:=[]) (tc:=ag) rfl (cQ (cz E6 Y4 kq sS (pv 1) (b8 n9 i3)))
   (λs H I=>dq (i:=0) (by decide) rfl (B6 rfl) (.inr rfl)) (λs H I=>P5) (λs H I=>(D9 c3 Z rfl (b8 (pv 0) (b8 (Q8 (v:=.int 5) rfl a4 ⟨a3,rfl⟩) i3)))) rfl (by decide) (by rfl) (by rfl) (λ_=>rfl)) i3)))
  (m8 (R3 (eP (eO (Q9 c4 Z rfl U7 (b8 (pv 0) (b8 (pv 2) i3))))) (u6 (aL R.e9 (R.xc 9 (by decide)) (wV (pI (wQ (pv 0) (pI Bj)))) (λσ H Q Q' m q=>?_))) G0)
  (u6 (C8 (pv 2))))))),?_⟩
 .obtain⟨v1,z1,i1,z2,z3,z4,z5⟩:=q;exact⟨v1,z1,i1,z2,z3,z4,λz=>m _ _ (z5 z)⟩
 refine⟨_,rfl,u,l,dk,1,4,rfl,S,CF (by decide) (by decide),CF (by decide) (by decide),λhw=>?_,λhw=>q5 hw H (u7.refl H)⟩;obtain⟨n,ed,n1,n4⟩:=mG hw;subst ed;have eu:u=.int n:=S.unint;subst eu;obtain⟨qb,qt⟩:=q9 n rfl n1 n4;refine⟨_,rfl,l,d,v,rfl,hd,λhs=>?_,λhs=>qb hs H (u7.refl H)⟩;obtain⟨t,ed⟩:∃t,d=.str t:=by
  cases d with
  | str x=>exact⟨x,rfl⟩
  | _=>cases hs
 subst ed;have ev:v=.str t:=by unfold Dt at hd;exact hd
 subst ev;obtain⟨hl,qn,qs⟩:=qt t rfl;have a5:=AB t;have y:∀x∈B1 t "/",x.length<=900:=λx J=>j9 (Pt x J) hl;refine⟨_,rfl,rfl,t,_,rfl,rfl,by decide,hl,λL a6=>?_⟩;have T:=LF (n:=n) (t:=t);have U:=λrs=>HM (n:=n) (t:=t) (rs:=rs);generalize B1 t "/"=a at a5 y T U;have g3:u7 H (C3 H L (.lst (a.map V.str))):=u7.new a6;have c:C3 H L (.lst (a.map V.str)) L=some (.lst (a.map V.str)):=j3;try dsimp -proj only
 generalize C3 H L (.lst (a.map V.str))=H3 at g3 c;refine⟨L,rfl,⟨_,.of c⟩,?_⟩;refine tX (K:=K) (a:=L) (xs:=a.map V.str) (sz (by rw[d8];lia)) (λj b g=>u7 H3 g/\Z5 l g ((a.take j).map wN) b/\b.length=j)
  ⟨u7.refl _,Z5.nil _ _,rfl⟩ (λj b g h=>h.2.2) (λj b g _ h=>.of (h.1 _ _ c)) rfl (λj b g v hv h=>?_) (λb g h=>?_)
 .obtain⟨gj,hD,X⟩:=h;rw[w6] at hv;obtain⟨x,J,I⟩:=Zt.mp hv;subst I;have step:∀(z:V) (i:Hp),u7 g i->Dt l i (wN x) z->u7 H3 i/\Z5 l i ((a.take (j+1)).map wN) (b++[z])/\(b++[z]).length=j+1:=λz i M hz=>by refine⟨gj.trans M,?_,by rw[y9,X];rfl⟩;rw[D8,J,v9];exact(hD.kp (M.kp l)).append (Z5.cons hz (Z5.nil _ _))
  refine⟨_,rfl,x,5,rfl,by decide,y x (r0 J),λe i M=>step _ i M ?_,λns e p1 i M fr a7=>step _ i M ?_⟩
  .have:wN x=.none:=by unfold wN;rw[e]
   rw[this];unfold Dt;rfl
  .have:wN x=DI ns:=by unfold wN;rw[e]
   rw[this];exact Dt.mkI (fr l o ((g3.trans gj) _ _ O)).symm a7
 obtain⟨gj,hD,X⟩:=h;rw[d8,C0 (i4 _)] at hD;intro Y a8;have g4:u7 g (C3 g Y (.lst b)):=u7.new a8;have p:C3 g Y (.lst b) Y=some (.lst b):=j3;try dsimp -proj only
 generalize C3 g Y (.lst b)=Ha at g4 p;refine⟨Y,_,rfl,.inl ⟨.of p,λN ht=>?_⟩⟩;have g5:u7 Ha (C3 Ha N (.tup b)):=u7.new ht;have gA:=(g3.trans gj).trans g4;have D:Dt l (C3 Ha N (.tup b)) (.tuple (a.map wN)) (.ref N):=Dt.tup (A5 (gA _ _ O) ht).symm j3 (hD.kp ((g4.trans g5).kp l));try dsimp -proj only
 generalize C3 Ha N (.tup b)=Hb at g5 D;refine⟨_,rfl,_,rfl,.int n,.ref N,l,.int n,_,rfl,Dt.int _ _ _,λe=>?_,λk ek k1 k4=>⟨D,?_,?_,λHc gc=>⟨_,rfl,?_⟩⟩⟩
 .exfalso;rw[hw] at e;cases e
 .intro ds e;cases e;rw[d8];lia
 .intro ds e r a9;cases e;obtain⟨x,J,I⟩:=ZY.mp a9;subst I;intro ds e;unfold wN at e;cases h6:oi 6 (B1 x ",") with
  | none=>rw[h6] at e;cases e
  | some ns =>
   rw[h6] at e;cases e;have:=(oh h6).2.1;have h7:=ph x;have h8:=y x J;rw[d8];lia
 .cases ek;cases hu:Kx n t with
  | none =>
   rw[T hu];exact aA ⟨_,rfl,n,rfl,(CF n1 n4).1,(CF n1 n4).2,λz=>qn hu Hc ((gA.trans g5).trans gc)⟩
  | some rs =>
   obtain⟨e1,e2⟩:=U rs hu;rw[e1];rw[show aD n (.tuple (rs.map DI))=true from e2];refine Z8 ⟨_,rfl,qs rs hu N Hc ((gA.trans g5).trans gc) ?_⟩;have:=D.kp (gc.kp l);rw[e1] at this;exact this
end
end G
namespace L2
open PySem PySem.Spec PyProof.Rows
section
variable {prog:j0}{w:w5}{A:A3}{E:b9->d9->Prop}{s:d9}
end
section
variable {X:Cx}{pins:List (Addr × Obj)}{σ:St}{H:Hp}{p d it:Addr}{rs:List Addr}{kvs:List (O0 × V)}{A:A3}{R:fZ->d9->Prop}
end
section
variable {X:Cx}{pins:List (Addr × Obj)}{σ:St}{H:Hp}{s:d9}
end
def LH:V->Option Int->Option Int->Hp->VK->Prop:=λx lo b H Q=>∃a,x=.str a/\a.length<=j6/\Q (.str (O7 a lo b)) H
def CT(h:IsPart v o):∃l:Option (Int × Tok),v=partValue l/\l.map (·.1)=o:=by
 cases h
 .exact⟨none,rfl,rfl⟩
 .exact⟨some (_,_),rfl,rfl⟩
def fK:SlR X LH:=by intro b s m H x v n o lo p sl Q I c d f g h;obtain⟨a,rfl,i,q⟩:=h;obtain⟨t,rfl⟩:=c;obtain⟨l,rfl,rfl⟩:=CT f;obtain⟨u,rfl,rfl⟩:=CT g;refine⟨"str",_,PySem.F.slot_str_getitem.lookup,hZ _ _ _,wpAny_getItem_str_slice (l:=l) (u:=u) (st:=none) d rfl (post_val_or_str ⟨j9 (rJ a _ _) i,λj k=>?_⟩)⟩;exact⟨.str _,H,I.kept (t':=k) λ_ _ e=>e,⟨j,rfl⟩,q⟩
section
variable {prog:j0}{w:w5}{A:A3}{E:b9->d9->Prop}{s:d9}
theorem vF {it t:Addr}{items:Array b9} (g:t≠it):∀(n i:Nat) (s:d9) (Q:List b9->d9->Prop),s.heap.IsListIter it t i->s.heap.IsList t items->i+n<=items.size ->
  (∀k,k.IsListIter it t (i+n)->F5 it s.heap k->Q ((items.toList.drop i).take n) { s with heap:=k })->j8 (n6 prog w) A (draw (.ref it) n) Q E s
 | 0,i,s,Q,d,_,_,l=>by
  show j8 _ _ (pure []) Q E s;exact f9 (by simpa using l s.heap d (yf ..))
 | n+1,i,s,Q,d,m,q,l=>by
  have h:i<items.size:=by lia
  show j8 _ _ (Y3 (.ref it) >>= _) Q E s;refine b7 (KF d m (x:=items[i]) (by simp[h]) λp b a=>?_);refine b7 (F2 (vF g n (i+1) _ _ b (m.at λo e=>a.extBut _ _ g e) (by lia) λj c f=>f9 ?_));have r:items.toList.drop i=items[i]::items.toList.drop (i+1):=by simp[yc,h]
  have:=l j (by rw[show i+(n+1)=i+1+n by lia];exact c) (a.trans f);rw[r,List.take_succ_cons] at this;exact this
end
section
variable {X:Cx}{pos:Pos}
end
def iW (c:Nat):Str:=⟨#[c]⟩
def QZ (x:Str):It:=⟨λi _=>i<x.cps.size,λi H v a=>a=H/\∃c,x.cps[i]?=some c/\v=.str (iW c),λi _=>x.cps.size<=i⟩
def Gu {P:j0}{w:w5}{K:m9}{R:Expr} (x:Str) (t:Tok) (it:Addr) (ty:String) (g:ty="str_ascii_iterator" ∨ ty="str_iterator"):pV P w K R (QZ x) [it] it (λi h=>h.IsStrIter it ty x t i) where
 mem:=by simp
 obj:=λi h st b j=>by
  have e:b=it:=by simpa using j
  subst e;obtain⟨o,e,c,d⟩:=st;exact⟨o,e,λv z=>by rw[d] at z;cases z⟩
 keep:=λi h l st k=>let ⟨o,e,c⟩:=st;⟨o,k it (by simp) o e,c⟩
 item:=by
  intro X D J L M i a s N H E I n st f;subst D J L;have f:i<x.cps.size:=f;obtain⟨p,r,T,y,B,C⟩:=n it (by simp);have fin:∀l,l.IsStrIter it ty x t (i+1)->F5 it s.heap l->∃u,some (cI ⟨#[x.cps[i]]⟩ s.toks)=some u/\j8 (n6 X.prog X.w) X.A (cB R (.ref it) u) (λ_ S=>∃v O,D1 X a N O S/\K3 v u/\(QZ x).yld i H v O/\S.heap.IsStrIter it ty x t (i+1)/\∀b∈[it],O b=none) E { s with heap:=l,toks:=s.toks+1 }:=λl m U=>by have V:D1 X a N H { s with heap:=l,toks:=s.toks+1 }:=I.turned (t':=s.toks+1) (λb o j e=>(U.2 b j).trans e) p r y B C;obtain⟨o,e,c,d⟩:=id m;refine⟨_,rfl,zf (s:={ s with heap:=l,toks:=s.toks+1 }) e c d ?_ ⟨.str (iW x.cps[i]),H,V,⟨_,rfl⟩,⟨rfl,_,by simp[f],rfl⟩,m,λb j=>(n b j).1⟩⟩;rcases g with e|e <;> rw[e] <;> decide
  obtain e|e:=g
  .subst e;exact wpAny_pyNext_ascii_item st (c:=x.cps[i]) (by simp[f]) fin
  .subst e;exact wpAny_pyNext_wide_item st (c:=x.cps[i]) (by simp[f]) fin
 done:=by
  intro X D J L M i a s N H E I n st f;subst D J L;have f:x.cps.size<=i:=f;obtain⟨p,r,T,y,B,C⟩:=n it (by simp);obtain e|e:=g
  .subst e;exact wpAny_pyNext_ascii_end (I.ok.hd M) st (by simp[f]) λl eb=>⟨rfl,I.turned (t':=s.toks) (λb o j e=>eb b o j e) p r y B C⟩
  .subst e;exact wpAny_pyNext_wide_end (I.ok.hd M) st (by simp[f]) λl eb=>⟨rfl,I.turned (t':=s.toks) (λb o j e=>eb b o j e) p r y B C⟩
 self:=λA i s Q E st q=>by
  obtain e|e:=g
  .subst e;exact wpAny_pyIter_striter_ascii st q
  .subst e;exact wpAny_pyIter_striter_wide st q
section
variable {X:Cx}
def iStr (a:TE):TI:=λb H R=>a b H λv c=>∃x,v=.str x/\R (QZ x) c
def Ic {i l:Expr}{j:TE} (n:PE X l j):PI X i l (iStr j):=by
 intro a s f H R I h;refine S6 (n a s f H _ I h) λv c ⟨u,k,g,p,x,e,q⟩=>?_;subst e;obtain⟨t,rfl⟩:=p;have fin:∀(ty:String) (d:ty="str_ascii_iterator" ∨ ty="str_iterator"),TU X a f i R (.ref c.heap.objs.size) { c with heap:=c.heap.push { cls:=.type ty,data:=.fields #[.str x t,.int 0 0] } }:=λty d=>by have r:D1 X a f k { c with heap:=c.heap.push { cls:=.type ty,data:=.fields #[.str x t,.int 0 0] } }:=g.kept (t':=c.toks) λb o e=>f6 _ e;refine⟨c.heap.objs.size,[c.heap.objs.size],_,_,k,rfl,r,Gu x t c.heap.objs.size ty d,⟨_,j7 _ rfl,rfl,rfl⟩,λb w=>?_,q⟩;rw[ZZ.mp w];exact g.fpOk (i4 _) (g.hok.fresh (i4 _))
 cases m:x.cps.all (·<128)
 .exact wpAny_pyIter_wide m (fin _ (.inr rfl))
 .exact wpAny_pyIter_ascii m (fin _ (.inl rfl))
def MX {x:Str}{b:St}{h:TE}{H:Hp}{F:List V->Hp->Prop} (o:x.cps.size<=j6) (Pv:Nat->List V->Hp->Prop) (k:Pv 0 [] H) (l:∀i a H,Pv i a H->a.length=i) (g:b[0]?=some none)
  (hs:∀i c a H,x.cps[i]?=some c->Pv i a H->h (b.set 0 (some (.str (iW c)))) H λy f=>Pv (i+1) (a++[y]) f) (hd:∀a H,Pv x.cps.size a H->F a H):Cj (QZ x) b (V5 0) ag h H F:=by
 refine⟨λi m a H=>m=x.cps.size - i/\i<=x.cps.size/\Pv i a H,⟨x.cps.size,by simp,A6 _,k⟩,?_⟩;rintro i m a j ⟨rfl,r,p⟩;refine⟨by rw[l i a j p];lia,?_⟩;by_cases d:i<x.cps.size
 .refine .inr ⟨d,λy f=>Pv (i+1) (a++[y]) f,λ_=>False,λy f q=>⟨x.cps.size - (i+1),by lia,rfl,d,q⟩,λ_ q=>q.elim,λv s y=>?_⟩;obtain⟨rfl,c,n,rfl⟩:=y;exact⟨Wk.set (.inl g),hs i c a _ n p⟩
 .have e:i=x.cps.size:=by lia
  subst e;exact .inl ⟨i4 _,hd a j p⟩
def vo:nj X (P7 .LtE) (λx y H Q=>∃i j,x=.str i/\y=.str j/\Q (.bl (!decide (j.cps.toList<i.cps.toList))) H):=by intro a s d H x y v u Q I b c h;obtain⟨i,j,rfl,rfl,q⟩:=h;obtain⟨t,rfl⟩:=b;obtain⟨e,rfl⟩:=c;exact PySem.P.le_str (P8 I q rfl)
def Bm:nj X (P7 .NotIn) (λx y H Q=>∃i j,x=.str i/\y=.str j/\Q (.bl (C9 j i 0 j.length 1).isEmpty) H):=by intro a s d H x y v u Q I b c h;obtain⟨i,j,rfl,rfl,q⟩:=h;obtain⟨t,rfl⟩:=b;obtain⟨e,rfl⟩:=c;exact PyProof.Rows.notIn_str (P8 I q (by simp))
end
def yj {prog:j0}{w:w5}{A:A3}{I:Addr}{b c:List Addr}{n:Nat}{P:Nat->b9->Prop}{St:Nat->Heap->Prop} (W:Walks prog w A I b c (n+1) P St):Walks prog w A I b c n (λi=>P (i+1)) (λi=>St (i+1)) where
 sub:=W.sub
 frame:=λi h d st k=>W.frame (i+1) h d st k
 item:=λi s Q E e st a=>W.item (i+1) s Q E (by lia) st a
 done:=λs Q E st a=>W.done s Q E st a
 self:=λi s Q E st a=>W.self (i+1) s Q E st a
section
variable {prog:j0}{w:w5}{A:A3}{E:b9->d9->Prop}{s:d9}
def oY {t:Addr}{x:b9}{a:List b9}{Q:List b9->d9->Prop} (u:A.handled=none) (m:s.heap.IsList t (x::a).toArray) (hz:(x::a).length<=j6)
  (v:∀(h':Heap) (y:Nat),(∀b o,s.heap.get? b=some o->h'.get? b=some o)->Q [x,.ref h'.objs.size] { s with heap:=h'.push { cls:=.type "list",data:=.seq a.toArray },toks:=y }):j8 (n6 prog w) A (Og (.ref t) 2 (some 1)) Q E s:=by
 have k:t≠s.heap.objs.size:=by obtain⟨o,l,_⟩:=m;exact y7 (i5 l)
 unfold Og;refine b7 ?_;unfold notIterableAtAll;refine b7 (wpAny_specialOf m.typeIs PySem.F.slot_list_iter.lookup ?_);refine f9 ?_;simp only[F8,Zq];refine b7 (F2 (ly m ?_));refine b7 (F2 (vF k 1 0 _ _ ⟨_,j7 _ rfl,rfl,rfl⟩ (m.push _) (by simp) λh c d=>?_));have f:h.IsList t (x::a).toArray:=(m.push _).at λo e=>d.extBut _ _ k e;have e1:List.take 1 (List.drop 0 (x::a).toArray.toList)=[x]:=by simp
 rw[e1];rw[ZC (by simp)];have W:=yj (n:=a.length) (by have:=UO (prog:=prog) (w:=w) (A:=A.in1) u s.heap.objs.size t k (x::a).toArray;rw[show (x::a).toArray.size=a.length+1 by simp] at this;exact this)
 have lit:s.heap.objs.size<h.objs.size:=by obtain⟨o,l,_⟩:=c;exact i5 l
 refine b7 (F2 (wpAny_collect_iter (T:="list_iterator") (.inr (.inr (.inl rfl))) W.toS (λi n st=>?_) ⟨c,f⟩ (λb B=>?_) (by simp) (λn g q p=>?_) (by rw[n5] at hz;lia)))
 .obtain⟨⟨o,l,C,_⟩,_⟩:=st;exact⟨o,l,C⟩
 .rcases C7.mp B with e|e
  .rw[e];exact lit
  .rw[ZZ.mp e];obtain⟨o,l,_⟩:=f;exact i5 l
 have D:g.toList=a:=by
  refine fg λj=>?_;by_cases H:j<a.length
  .have r:j<g.size:=by rw[p.1];exact H
   have:=p.2 j g[j] (by simp[r]);have e2:(x::a).toArray[j+1]?=some g[j]:=this;rw[List.getElem?_toArray,List.getElem?_cons_succ] at e2;rw[e2,G7];simp[r]
  .rw[au (by rw[u9,p.1];lia),au (by lia)]
 rw[D,ZC (by simp)];refine b7 (lU ?_ (by rw[n5] at hz;simp;lia));have I:List.take (a.length - (2 - 1 - 1)) a=a:=C0 (by simp);rw[I];refine f9 ?_;have J:[x]++[r6 n.heap.objs.size]++List.drop (a.length - (2 - 1 - 1)) a=[x,.ref n.heap.objs.size]:=by simp
 rw[J];have k1:∀b o,s.heap.get? b=some o->n.heap.get? b=some o:=λb o e=>q.heap b o (λz=>by rw[ZZ.mp z] at e;exact U0 _ (i5 e)) (d.extBut b o (y7 (i5 e)) (f6 _ e));obtain⟨K,N,d2,L,M⟩:=n;obtain⟨_,m1,m2,m3,_⟩:=q;cases m1;cases m2;cases m3;exact v K L k1
end
section
variable {X:Cx}{pos:Pos}
def Tu (K:m9) (d e:TG):TG:=λv f H Q=>∃a x c,v=.ref a/\jc K H a (x::c)/\∀p,H p=none->d x f (C3 H p (.lst c)) λb g=>e (.ref p) b g Q
def LP {f e:Expr}{o:Pos}{k:Nat}{p t:TG} (B:X.calm=true) (i:PG X f p) (g:PG X e t) (C:fq [f,.Starred e o] X.env=[(false,fY f X.env),(true,fY e X.env)]:=by rfl):PG X (.Tuple [f,.Starred e o] k pos) (Tu X.K p t):=by
 intro b s j H v u Q I r l;obtain⟨a,x,w,e1,D,l⟩:=l;subst e1;cases r;obtain⟨d,E,J,y⟩:=I.list D;cases E with
 | @cons _ z _ d K m =>
  rw[arm_assign_Tuple];refine b7 (cF ?_);unfold unpack;rw[C];refine b7 (F2 (oY (I.ok.hd B) J.isList (by have i:=m.length;have g:=y;simp only[n5] at g ⊢;lia) λc h kp=>?_));have A:D1 X b j H { s with heap:=c,toks:=h }:=I.kept (t':=h) kp;have L:=A.hok.fresh (i4 c.objs.size);have M:D1 X b j (C3 H c.objs.size (.lst w)) { s with heap:=c.push { cls:=.type "list",data:=.seq d.toArray },toks:=h }:=A.laid (a:=c.objs.size) (o:=.lst w) (t':=h) (λ_ _ q=>f6 _ q) (i4 _) ⟨by have i:=m.length;have g:=y;simp only[n5] at g ⊢;lia,d,0,m,j7 _ rfl⟩;show j8 _ _ (nN [r6 c.objs.size] (fY f X.env z) >>= λ_=>lV [fY e X.env] [r6 c.objs.size]) _ _ _;refine b7 (F2 (S6 (i b _ j _ x z _ M K (l _ L)) λ_ S ⟨n,N,O,P⟩=>?_));show j8 _ _ (nN [] (fY e X.env (.ref c.objs.size)) >>= λ_=>lV [] []) _ _ _;refine b7 (F2 (S6 (g b _ n N (.ref c.objs.size) (.ref c.objs.size) _ O rfl P) λ_ T R=>f9 R))
end
def vw:RF X "str.index" (λx c H Q=>∃(a b:Str) (i:Nat) (aW:List Nat),x=.str a/\c=[.str b]/\C9 a b 0 a.length 1=i::aW/\Q (.int i) H):=by intro d s l H x c v m Q I e f h;obtain⟨a,b,i,aW,rfl,rfl,g,q⟩:=h;obtain⟨t,rfl⟩:=e;obtain⟨u,rfl,j⟩:=f.one;obtain⟨k,rfl⟩:=j;exact call_gives kA (hZ s _ _) PySem.F.entry_str_index (PySem.F.args_str_index_2 _ _) (gives_str_index a b t k i aW g) ⟨.int i,H,I.tok _,⟨_,rfl⟩,q⟩
structure Ka (K:m9) (w:w5) (dl:Addr) (f:Str->Option b9):Prop where
 sys:(dl == R4)=false
 ex:∃es n,K.lookup dl=some ⟨.type "dict",none,.dict es n,#[]⟩/\RS w.params es.toList/\∀x,uv W9 es x=f x
section
variable {X:Cx}{dl:Addr}{f:Str->Option b9}
def Ka.map (T:Ka X.K X.w dl f) {a:List (Addr × Obj)}{b:St}{H:Hp}{s:d9} (I:D1 X a b H s):s.heap.MapOf (strKind X.prog X.w) dl f:=by obtain⟨c,n,d,g,h⟩:=T.ex;have:=W.mapOf_K (prog:=X.prog) (w:=X.w) I.kIn d g;have e:(λk=>uv W9 c k)=f:=funext h;rw[e] at this;exact this
def Lu (dl:Addr) (f:Str->Option b9) (b ty:TE):TE:=λa H Q=>b a H λx c=>ty a c λy d=>∃k v u,x=.ref dl/\y=.str k/\f k=some u/\K3 v u/\Q v d
def vk {o i:Expr}{c ty:TE}{pos:Pos} (T:Ka X.K X.w dl f) (e:PE X o c) (g:PE X i ty) (hs:QX i):PE X (.Subscript o i pos) (Lu dl f c ty):=by intro a s d H Q I h;refine Cv PySem.F.slot_dict_getitem.lookup hs (S6 (e a s d H _ I h) λu j ⟨x,l,m,n,p⟩=>S6 (g a j d l _ m p) λD E ⟨y,q,b,r,k,v,J,w,z,A,B,C⟩=>?_);subst w z;cases n;obtain⟨t,rfl⟩:=r;exact⟨(T.map b).typeIs,UJ (strKind_is X.prog X.w k t) (T.map b) A ⟨v,q,b.tok _,B,C⟩⟩
def Ez (T:Ka X.K X.w dl f):nj X (P7 .NotIn) (λx y H Q=>∃k,x=.str k/\y=.ref dl/\Q (.bl (f k).isNone) H):=by intro a s d H x y v u Q I b c h;obtain⟨k,rfl,rfl,q⟩:=h;obtain⟨t,rfl⟩:=b;cases c;refine wpAny_notIn_of (strKind_is X.prog X.w k t) T.sys (T.map I) ⟨.bl (f k).isNone,H,I.tok _,?_,q⟩;cases f k <;> rfl
end
end L2
namespace G
open PySem PySem.Spec PyProof.Rows L2 Mt
def mw {i:Int} (a:0<=i) (h:i<10 ^ 574):i.natAbs.log2<1920:=by
 obtain e|e:=qL i.natAbs
 .rw[e];decide
 .have b:i.natAbs<10 ^ 574:=by
   have:((i.natAbs:Nat):Int)<((10 ^ 574:Nat):Int):=by rw[Ge a];exact h
   exact ZE.mp this
  exact B5 ((gH (by lia)).mpr (B5 b (show 10 ^ 574<=2 ^ 1910 by decide))) (by decide)
def pe {i:Int} (a:0<=i) (h:i<10 ^ 574):(tx i).length<=574:=by
 obtain⟨n,rfl⟩:=O8 a;have b:n<10 ^ 574:=by have:(n:Int)<((10 ^ 574:Nat):Int):=h;exact ZE.mp this
 have e:(tx (n:Int)).length=(Nat.repr n).length:=PySem.ofString_length _;rw[e];exact(Nat.length_repr_le_iff (by decide)).mpr b
section
variable {X:Cx}{es:List Expr}{n:Nat}{t:TJx}
def yK {e:Expr}{k:TE}{pos:Pos} (l:PE X e k) (h:RE X es (n+1000) t) (hz:n+1000<=j6:=by decide):
  RE X (.FormattedValue e (-1) none pos::es) n (λb H Q=>k b H λv c=>∃i:Int,v=.int i/\i.natAbs.log2<1920/\(K9 (toString i)).length<=1000/\t b c λz m=>Q (K9 (toString i)++z) m):=by
 intro f x a s b H Q I q;show j8 _ _ (qZ f (eval (.FormattedValue e (-1) none pos) X.env::vS es X.env)) _ _ _;refine qK (Ov (S6 (l a s b H _ I q) λu o ⟨v,c,g,r,i,p,w,d,j⟩=>?_));subst p;obtain⟨y,rfl⟩:=r;refine Nl w ⟨?_,?_⟩
 .rw[A9];have:(toString i:Str).length<=1000:=d;lia
 .exact S6 (h _ (by rw[A9];have:(toString i:Str).length<=1000:=d;lia) a _ b c _ (g.tok _) j) λu o ⟨z,c,g,r,j⟩=>⟨_,c,g,by rw[<- V3];exact r,j⟩
end
section
variable {P:j0}{w:w5}{K:m9}{mg:Str->Option b9}{base:Heap}{f:Addr}{fd:C5}
def pA:Sp:=λd H Q _=>∃(a:Addr) (t b:Int),d=[.ref a]/\H a=some (.tup [.int t,.int b])/\0<=t/\t<10 ^ 574/\0<=b/\b<10 ^ 574/\∀c,u7 H c->Q (.str (fT t b)) c
def Qj (F:aU K "fraction_text" "fraction_text" Po f fd) (n:KD mg):K6 P w K mg base ee 1 f fd ["fraction"] pA:=by
 refine F.ok GS (λo H Q E h=>?_) (λp A c s H o Q E u h=>?_)
 .obtain⟨a,t,b,rfl,_⟩:=h;rfl
 obtain⟨a,t,b,rfl,r,d,g,l,m,q⟩:=h;refine⟨_,(m8 (pH (pv 0) (sG rfl (X8 (U6 (i:=1) GS.nd rfl (B6 rfl)) (X8 (U6 (i:=2) GS.nd rfl (B6 rfl)) iA))))
  (u6 (C8 (yM (J1 eg (pv 2) A7 (N2 _)) (G9 R0 rfl n.str dc (b8 (pv 1) i3)) (Ik (yK (pv 1) (LM (yK (pv 2) LN)))))))),?_⟩
 refine⟨_,rfl,a,_,rfl,.of r,rfl,_,_,rfl,_,_,rfl,rfl,?_⟩;refine⟨_,rfl,rfl,_,rfl,?_⟩;have i:=pe d g;have j:=pe l m;by_cases e:b=1
 .have k:fT t b=tx t:=ZB e;rw[ZA (Zu V.int e)];refine aA ⟨_,rfl,t,rfl,mw d g,?_⟩;have:=q _ (u7.refl H);rw[k] at this;exact this
 .have k:fT t b=tx t++("/"++tx b):=ZC e;rw[Zz (λz=>e (V.int.inj z))];refine Z8 ⟨_,rfl,t,rfl,mw d g,j9 i (by decide),_,rfl,b,rfl,mw l m,j9 j (by decide),?_⟩;have:=q _ (u7.refl H);rw[k,<- Cw (tx b)] at this;exact this
end
end G
namespace L2
open PySem PySem.Spec PyProof.Rows
structure xH (P:j0) (w:w5) (K:m9) (mg:Str->Option b9) (base:Heap) (C:Addr) (k:Nat) (m:Str) (ps:List Str) (sp:Sp):Prop where
 ex:∃f fd,Nf K C m f/\cO K fd ps []/\K6 P w K mg base ee k f fd ps sp
variable {C:Addr}
def xH.up {P:j0}{w:w5}{K:m9}{mg:Str->Option b9}{e:Heap}{j k:Nat}{m:Str}{ps:List Str}{sp:Sp} (c:xH P w K mg e C j m ps sp) (h:j<=k):xH P w K mg e C k m ps sp :=
 let ⟨f,g,a,b,d⟩:=c.ex;⟨f,g,a,b,d.mono h⟩
structure FC (P:j0) (w:w5) (K:m9) (mg:Str->Option b9) (base:Heap) (C:Addr) (k:Nat) (x:Str) (ps:List Str) (sp:Sp):Prop where
 ex:∃f fd,Mk K C f/\mg x=some (.ref C)/\cO K fd ps []/\K6 P w K mg base ee k f fd ps sp
def FC.up {P:j0}{w:w5}{K:m9}{mg:Str->Option b9}{g:Heap}{j k:Nat}{x:Str}{ps:List Str}{sp:Sp} (c:FC P w K mg g C j x ps sp) (h:j<=k):FC P w K mg g C k x ps sp :=
 let ⟨f,i,a,e,b,d⟩:=c.ex;⟨f,i,a,e,b,d.mono h⟩
def tMb (C:Addr) (m:Str) (sp:Sp) (d:TE) (t:TA):TE:=λb H Q=>d b H λx c=>∃a e fs,x=.ref a/\c a=some (.ins C e fs)/\fs.lookup m=none /\
 t b c λf g=>sp (x::f) g Q E0
def tMk0 (C:Addr) (sp:Sp):TE:=λc H Q=>∀x a,H x=none->H a=none->a≠x ->
 sp [.ref x] (C3 (C3 H a (.own x)) x (.ins C a [])) (λv b=>v=.non/\Q (.ref x) b) E0
section
variable {X:Cx}{k:Nat}{C:Addr}{ps:List Str}{sp:Sp}{x m:Str}{p pos apos:Pos}{e o:Expr}{es:List Expr}{ta:TE}{t:TA}
def LR {pl:Sem Bool} (g:PE X o ta) (c:FS X.K C) (M:xH X.prog X.w X.K X.mg X.base C k m ps sp) (i:bD k X.A) (j:PA X (e::es) t)
  (a:B9 (e::es) X.env=(false,eval e X.env)::B9 es X.env:=by rfl) (b:(Z7 pos (B9 es X.env)).any (·.1)=false:=by rfl)
  (l:eval (.Call (.Attribute o m apos) (e::es) [] pos) X.env=(do
   let d <- eval o X.env
   KH apos.atName
   let (f,first) <- nN [d] (xZ d m pl)
   callWith pos f first (Z7 pos (B9 (e::es) X.env)) (vU pos (lC [] X.env))):=by rfl):
  PE X (.Call (.Attribute o m apos) (e::es) [] pos) (tMb C m sp ta t):=by
 obtain⟨f,r,n,q,F⟩:=M.ex;have h:=CO (pl:=pl) g c n F i q .nil Iu j a b l;have e:yo C m sp [] E0 ta t=tMb C m sp ta t:=by funext σ H Q;unfold yo tMb;simp only[P4]
 rw[<- e];exact h
def PK (M:FC X.prog X.w X.K X.mg X.base C k x ps sp) (b:bD (k+1) X.A) (c:Gl X x) (a:(x == ("__debug__":Str))=false:=by decide):PE X (.Call (.Name x p) [] [] pos) (tMk0 C sp):=by obtain⟨f,h,mk,d,g,F⟩:=M.ex;exact Ii mk F b c d g .nil Iu a
end
def EH:RF X "str.count" (λx c H Q=>∃(a b:Str),x=.str a/\c=[.str b]/\Q (.int ((C9 a b 0 a.length (a.length+1)).length:Nat)) H):=by intro d s j H x c v k Q I e f h;obtain⟨a,b,rfl,rfl,q⟩:=h;obtain⟨t,rfl⟩:=e;obtain⟨u,rfl,g⟩:=f.one;obtain⟨i,rfl⟩:=g;exact call_gives yb (hZ s _ _) PySem.F.entry_str_count (PySem.F.args_str_count_2 _ _) (gives_str_count a b t i) ⟨.int _,H,I.tok _,⟨_,rfl⟩,q⟩
def zv {x y:Str} (a:y.length<=x.length) (b:X2 y<=X2 x):(B1 x y).length=(C9 x y 0 x.length (x.length+1)).length+1:=by
 unfold B1;rw[ZC (by simp only[Bool.or_eq_true,decide_eq_true_eq];lia)];split
 .next h =>
  rw[List.isEmpty_iff] at h;rw[h];rfl
 .rw[PySem.length_partsBetween]
def Jt (x:Str):1<=X2 x:=by
 unfold X2;split
 .exact i4 _
 .split <;> decide
def KB (h:Heap) (a C T:Addr) (v:b9):Prop:=∃b c d e,h.get? a=some b/\b.cls=.ref C/\b.dict=none/\b.data=.fields c/\c[1]?=some (.ref T)/\T≠a/\h.get? T=some d/\d.data=.fields e/\e[3]?=some v
structure vP (fs:List Addr) (S:Addr->Prop) (h h':Heap):Prop where
 keep:∀b o,¬ S b->b ∉ fs->h.get? b=some o->h'.get? b=some o
 slot:∀b o,¬ S b->h.get? b=some o->∃sl,h'.get? b=some { o with slots:=sl }
variable {S:Addr->Prop}
def vP.trans(a:vP fs S f g) (b:vP fs S g h):vP fs S f h :=
 ⟨λc o n m e=>b.keep c o n m (a.keep c o n m e),λc o n e=>by obtain⟨sl,e1⟩:=a.slot c o n e;obtain⟨d,e2⟩:=b.slot c _ n e1;exact⟨d,e2⟩⟩
variable {h h':Heap}
def vP.of(k:∀b o,¬ S b->h.get? b=some o->h'.get? b=some o):vP fs S h h':=⟨λb o n _ e=>k b o n e,λb o n e=>⟨o.slots,k b o n e⟩⟩
section
variable {M:lE}{A:A3}{E:b9->d9->Prop}{s:d9}{bs:Heap}{ev:Env}{out:List Env}{L a C:Addr}{S:Addr->Prop}
variable {Q:Unit->d9->Prop}
def MO {ob:Obj}{us:Array b9}{i:b9}{J:Bool}
  (fr:A.frames=some (ev::out)) (B:s.heap.FunFrames bs (ev::out)) (K:ev.frame=some L) (D:s.heap.get? a=some ob) (N:ob.cls=.ref C) (O:ob.dict=none) (q:ob.data=.fields us) (sz:1<us.size) (H:S a)
  (k:∀h' T,KB h' a C T (N6 L)->s.heap.objs.size<=T->vP (fR (ev::out)) S s.heap h'->Q () { s with heap:=h' }):
  j8 M A (do let x <- frameOf ev;let n <- entryPlaceOf L J;let b <- fH i x .none (N6 L) .none n;iO (.ref a) 1 b) Q E s:=by
 have P:a ∉ (ev::out).filterMap (·.frame):=λR=>by obtain⟨_,o,I,r⟩:=B.mem R;rw[D] at I;cases I;exact r us q
 refine b7 (Uh fr B K λc p=>?_);refine b7 (RJ λn t=>?_);unfold fH UN;refine b7 (E4 ?_ (t.sizeOk5 _ _ _ _ _));have j:c.get? a=some ob:=(p.2.1 a P).trans D;generalize f:({ cls:=.type "traceback",dict:=none,data:=.fields ([i,.ref L,.none,N6 L,.none]++(if n.isEmpty then cG 6 B4 else n)).toArray }:Obj)=d;have l:(c.push d).get? a=some ob:=f6 (h:=c) d j;have u:(c.push d).get? c.objs.size=some d:=j7 c (by rw[<- f];rfl);have g:∃v,d.data=.fields v/\v[3]?=some (N6 L):=⟨_,by rw[<- f],by simp⟩
 obtain⟨v,g,U⟩:=g;refine S7 l q sz ?_;have neT:c.objs.size≠a:=D2 (i5 j);have d3:=M3 q (·.setIfInBounds 1 (r6 c.objs.size));have w:=K2 (J4 (·.setIfInBounds 1 (r6 c.objs.size))) l (V9 d3);have y:((c.push d).update a (J4 (·.setIfInBounds 1 (r6 c.objs.size)))).get? c.objs.size=some d :=
  (E2 (c.push d) (J4 (·.setIfInBounds 1 (r6 c.objs.size))) (G2 neT)).trans u
 have kp:∀b o,b≠a->c.get? b=some o->((c.push d).update a (J4 (·.setIfInBounds 1 (r6 c.objs.size)))).get? b=some o:=by intro b o m e;rw[E2 _ _ (G2 m)];exact f6 _ e
 refine k _ c.objs.size ⟨_,_,_,_,w,?_,?_,d3,by simp[sz],neT,y,g,U⟩ (by rw[p.1];exact i4 _) ⟨λb o m V e=>?_,λb o m e=>?_⟩
 .rw[jZ];exact N
 .rw[kY];exact O
 .exact kp b o (λz=>m (z ▸ H)) ((p.2.1 b V).trans e)
 .obtain⟨sl,e1⟩:=p.2.2 b o e;exact⟨sl,kp b _ (λz=>m (z ▸ H)) e1⟩
def IT {d:Addr}{v:b9}(fr:A.frames=some (ev::out)) (r:s.heap.FunFrames bs (ev::out)) (m:ev.frame=some L) (x:KB s.heap a C d v) (t:(v == N6 L)=false) (u:S a) (w:S d)
  (k:∀h' T,KB h' a C T (N6 L)->s.heap.objs.size<=T->vP (fR (ev::out)) S s.heap h'->Q () { s with heap:=h' }):
  j8 M A (fC (.ref a) ev) Q E s:=by
 unfold fC;simp only[m];obtain⟨J,n,K,y,e1,e2,e3,e4,e5,ne,g,i,p⟩:=x;refine b7 (D5 e1 e4 e5 ?_);rw[ZB (show (r6 d != B4)=true from by simp)];refine b7 (D5 g i p ?_);rw[ZC (show ¬ ((v == N6 L)=true) from by rw[t];decide)];refine b7 (S7 g i (ZU.mp p).1 ?_);have j:∀b,b≠d->(s.heap.update d (J4 (·.setIfInBounds 3 B4))).get? b=s.heap.get? b:=λb c=>E2 _ _ (G2 c);have B:∀b o,s.heap.get? b=some o->(∀n,o.data≠.fields n)->b≠d:=λb o c f q=>by rw[q,g] at c;cases c;exact f y i
 refine MO (S:=S) fr (r.of_keeps λb o c f=>⟨o,(j b (B b o c f)).trans c,rfl⟩) m ((j a (G2 ne)).trans e1) e2 e3 e4 (ZU.mp e5).1 u λh' T D H I=>?_;have l:s.heap.objs.size<=T:=by have z:=lI s.heap d (J4 (·.setIfInBounds 3 B4));rw[<- z];exact H
 exact k h' T D l ((vP.of λb o c e=>(j b λz=>c (z ▸ w)).trans e).trans I)
def tS {T:Addr}{v:b9}{c:Option Addr}(x:KB s.heap a C T v) (m:S T) (fs:List Addr)
  (k:∀h',KB h' a C T (c.elim .none λf=>N6 f)->h'.objs.size=s.heap.objs.size->vP fs S s.heap h'->Q () { s with heap:=h' }):j8 M A (mB (.ref a) c) Q E s:=by
 obtain⟨n,p,q,r,e1,e2,e3,e4,e5,ne,i,d,j⟩:=x;unfold mB;refine b7 (D5 e1 e4 e5 ?_);rw[ZB (show (r6 T != B4)=true from by simp)];refine S7 i d (ZU.mp j).1 ?_;have l:∀b,b≠T->(s.heap.update T (J4 (·.setIfInBounds 3 (c.elim B4 λf=>N6 f)))).get? b=s.heap.get? b:=λb g=>E2 _ _ (G2 g);exact k _ ⟨n,p,_,_,(l a (G2 ne)).trans e1,e2,e3,e4,e5,ne,K2 _ i (V9 (M3 d _)),M3 d _,by rw[cq (ZU.mp j).1]⟩ (lI ..) (vP.of λb o g e=>(l b λz=>g (z ▸ m)).trans e)
def Mp {c:Addr}{v:b9}(fr:A.frames=some (ev::out)) (l:s.heap.FunFrames bs (ev::out)) (f:ev.frame=some L) (x:KB s.heap a C c v) (m:S a) (d:S c) (g:∀b,s.heap.objs.size<=b->S b)
  (k:∀h' T,Hd h' a C (some T)->S T->vP (fR (ev::out)) S s.heap h'->Q () { s with heap:=h' }):j8 M A (qY ev (.ref a)) Q E s:=by
 unfold qY;cases i:v == N6 L with
 | false=>exact b7 (IT fr l f x i m d λh' T n j o=>tS (S:=S) n (g T j) (fR (ev::out)) λe z1 _ z2=>k e T z1 (g T j) (o.trans z2))
 | true =>
  refine b7 ?_;unfold fC;simp only[f];have p:=x;obtain⟨u,w,y,z,e1,e2,e3,e4,e5,ne,q,r,t⟩:=p;refine b7 (D5 e1 e4 e5 ?_);rw[ZB (show (r6 c != B4)=true from by simp)];refine b7 (D5 q r t ?_);rw[ZB i];exact f9 (tS (S:=S) x d (fR (ev::out)) λe z1 _ z2=>k e c z1 d z2)
end
def Gv {b:Type}{M:lE}{A:A3}{m:Sem b}{c Q:b->d9->Prop}{E:b9->d9->Prop}{s:d9} (h:j8 M A m c (λ_ _=>False) s) (k:∀a d,c a d->Q a d):j8 M A m Q E s:=C4 h k λ_ _ f=>f.elim
section
variable {prog:j0}{w:w5}{A:A3}{R:fZ->d9->Prop}{s:d9}
def uL {p a iter:Expr}{ifs:List Expr}{scope:O9}{pos:Pos}{it acc:b9}{env:Env} (I:Nat->d9->Prop)
  (t:∀n s,I n s->j8 (n6 prog w) A (Y3 it) (λr b=>match r with
   | none=>R (.ok .next) b
   | some v=>j8 (n6 prog w) A (cB a it v) (λ_ d=>j8 (n6 prog w) A (fY a env v) (λ_ i =>
     j8 (n6 prog w) A (forIn ifs true λc r=>if r=true then do let ok <- KM c env (eval c env);pure (ao ok) else pure (ao r)) (λok f =>
      if ok=true then j8 (n6 prog w) A (eval p env) (λx j =>
       j8 (n6 prog w) A (call (.builtin "list.append") [acc,x]) (λ_ k=>∃m,m<n/\I m k) (qX (n6 prog w) A env λe g=>R (.error e) g) j) (qX (n6 prog w) A env λe g=>R (.error e) g) f
      else ∃m,m<n/\I m f) (qX (n6 prog w) A env λe g=>R (.error e) g) i) (qX (n6 prog w) A env λe g=>R (.error e) g) d) (qX (n6 prog w) A env λe g=>R (.error e) g) b) (qX (n6 prog w) A env λe g=>R (.error e) g) s)
  (n:Nat) (h:I n s):
  Z2 (n6 prog w) A (.compLoop (.ListComp p [⟨a,iter,ifs,0⟩] scope pos) 0 it acc env) R s:=by
 refine KO rfl I (λn s B=>?_) n h;show j8 _ A ((compTurn (.ListComp p [⟨a,iter,ifs,0⟩] scope pos) 0 it acc env).onRaise (λx=>do fC x env;Ak x)) _ _ s;refine Oe ?_;rw[compTurn_list];refine b7 (cF (b7 (C4 (t n s B) (λr b l=>?_) λ_ _ h'=>h')));cases r with
 | none=>exact f9 l
 | some v =>
  refine b7 (C4 l (λ_ d q=>?_) λ_ _ h'=>h');refine b7 (C4 q (λ_ i u=>b7 (C4 u (λok f o=>?_) λ_ _ h'=>h')) λ_ _ h'=>h');cases ok with
  | false=>exact f9 ⟨rfl,o⟩
  | true =>
   exact b7 (b7 (C4 o (λx j y=>b7 (C4 y (λ_ k z=>f9 (f9 ⟨rfl,z⟩)) λ_ _ h'=>h')) λ_ _ h'=>h'))
end
def xeC (X:Cx) (C:Addr) (a:Env):b9->d9->Prop:=qX (n6 X.prog X.w) X.A a λx b=>DP (n6 X.prog X.w) X.A X.xe none (λ_ _=>False) .none C (.error x) b
def Cx.compE (X:Cx) (scope:O9) (N:List Str) (s:d9) (H:Hp) (ex:List Addr):Cx:={ X.comp scope N s H ex with xe:=xeC X s.heap.objs.size (X.comp scope N s H ex).env }
section
variable {X:Cx}{pins:List (Addr × Obj)}{σ:St}{H H1:Hp}{s s1:d9}{scope:O9}{N:List Str}{ex:List Addr}
def D1.toE (I:D1 (X.comp scope N s H ex) pins σ H1 s1):D1 (X.compE scope N s H ex) pins σ H1 s1 :=
 ⟨⟨I.ok.mod,I.ok.kind,I.ok.glob,I.ok.blt,I.ok.above,I.ok.inj,I.ok.has,I.ok.cab,I.ok.hd,I.ok.frames,I.ok.stk,I.ok.exf,I.ok.bs,I.ok.bsz,I.ok.noex,I.ok.exfs,I.ok.funs,I.ok.frf⟩,I.os,I.bare,I.base,I.loc,I.cell,I.free,I.freeC,I.pin,I.hok,I.len⟩
def D1.ofE (I:D1 (X.compE scope N s H ex) pins σ H1 s1):D1 (X.comp scope N s H ex) pins σ H1 s1 :=
 ⟨⟨I.ok.mod,I.ok.kind,I.ok.glob,I.ok.blt,I.ok.above,I.ok.inj,I.ok.has,I.ok.cab,I.ok.hd,I.ok.frames,I.ok.stk,I.ok.exf,I.ok.bs,I.ok.bsz,I.ok.noex,I.ok.exfs,I.ok.funs,I.ok.frf⟩,I.os,I.bare,I.base,I.loc,I.cell,I.free,I.freeC,I.pin,I.hok,I.len⟩
end
section
variable {X:Cx}{scope:O9}{N:List Str}{ix:List (Option Nat)}{elt target iter:Expr}{ifs:List Expr}{pos:Pos}{wi:TI}{g:TG}{te:TE}{tc:TT}
def Fe {m:List (Addr × Obj)}{L:St}{H:Hp}{s:d9}{it:Addr}{j:List Addr}{tn:Nat->Heap->Prop}{J:It}{F:List V->Hp->Prop}{E:b9->d9->Prop}{RR:b9->Addr->fZ->d9->Prop}
  (hc:X.calm=true) (hk:scope.kind=.function) (a9:gs scope=true) (hf:aZ scope X.env=true) (hx:iX scope X.N N ix=true)
  (hg:∀s H ex,PG (X.comp scope N s H ex) target g) (ht:∀s H ex,Ce (X.comp scope N s H ex) ifs tc) (he:PE (X.compE scope N (N9 s) H (s.heap.objs.size::j)) elt te) (ab:∀e s',(X.compE scope N (N9 s) H (s.heap.objs.size::j)).xe e s'->qX (n6 X.prog X.w) X.A (X.comp scope N (N9 s) H (s.heap.objs.size::j)).env (λx s2=>RR (.ref s.heap.objs.size) (N9 s).heap.objs.size (.error x) s2) e s')
  (I:D1 X m L H s) (T:pV X.prog X.w X.K target J j it tn) (st:tn 0 s.heap) (Z:∀b∈j,gZ X m H b) (B:Cj J (cu ix L) g tc te H F)
  (fin:∀(ys:List V) (H':Hp) (s':d9) (ac:St) (f:List b9) (n:Nat),D1 (X.comp scope N (N9 s) H (s.heap.objs.size::j)) [] ac H' s'->H' s.heap.objs.size=none ->
   s'.heap.get? s.heap.objs.size=some { cls:=.type "list",data:=.seq f.toArray n }->J9 ys f->ys.length<=j6->F ys H'->RR (.ref s.heap.objs.size) (N9 s).heap.objs.size (.ok .next) s'):
  j8 (n6 X.prog X.w) X.A (KJ []) (λa0 a1=>j8 (n6 X.prog X.w) X.A (km scope X.env.globals (Y0 X.env scope.names []) [] X.env.qual none .none (some X.env)) (λO a2 =>
   Z2 (n6 X.prog X.w) X.A (.compStart (.ListComp elt [⟨target,iter,ifs,0⟩] scope pos) 0 (.ref it) a0 { O with scope:=nM scope X.env }) (RR a0 O.locals) a2) E a1) E s:=by
 refine E4 (kS ?_) (by show ([]:List b9).toArray.size<=j6;exact A6 _);obtain⟨W,⟨m0,w0⟩,a3⟩:=B;have I1:D1 X m L H (N9 s):=I.kept (t':=s.toks) λb o e=>f6 _ e;have t:∀b∈j,b<s.heap.objs.size:=λb a=>let ⟨o,e,_⟩:=T.obj 0 _ st b a;i5 e
 have a4:(N9 s).heap.get? s.heap.objs.size=some { cls:=.type "list",dict:=none,data:=.seq ([]:List b9).toArray }:=j7 _ rfl;have U:gZ X m H s.heap.objs.size:=I.fpOk (i4 _) (I.hok.fresh (i4 _));have J0:D1 (X.comp scope N (N9 s) H (s.heap.objs.size::j)) [] (cu ix L) H _:=I1.comp (N:=N) (ix:=ix) (ex:=s.heap.objs.size::j) hk a9 hf hx λb a=>by
  obtain z|z:=C7.mp a
  .subst z;exact⟨U.1,U.2.1,U.2.2.1,U.2.2.2.1,U.2.2.2.2.1,by rw[aM];exact T5 _⟩
  .obtain⟨f0,f1,f2,f3,f4,_⟩:=Z b z;exact⟨f0,f1,f2,f3,f4,by rw[aM];exact M8 (t b z)⟩
 have w:∀b o,(N9 s).heap.get? b=some o->(bK ((N9 s).heap.push { cls:=.type "dict",data:=.dict #[] }) scope.names).get? b=some o:=λb o e=>jh _ _ b o (f6 _ e);have a5:tn 0 (bK ((N9 s).heap.push { cls:=.type "dict",data:=.dict #[] }) scope.names):=T.keep 0 _ _ st λb a o e=>w b o (f6 _ e);have l:∀b∈s.heap.objs.size::j,b≠(X.comp scope N (N9 s) H (s.heap.objs.size::j)).env.locals/\b ∉ (X.comp scope N (N9 s) H (s.heap.objs.size::j)).fs /\
   ∀x c,(X.comp scope N (N9 s) H (s.heap.objs.size::j)).env.cells.lookup x=some c->c≠b:=λb a=>⟨(J0.ok.exf b a).1,J0.ok.exfs b a,(J0.ok.exf b a).2⟩
 have A:∀{H':Hp}{o:Obj},(∀b∈j,H' b=none)->∀b∈j,gZ (X.comp scope N (N9 s) H (s.heap.objs.size::j)) [(s.heap.objs.size,o)] H' b:=λ{H' o} hn b a=>by obtain⟨e1,e2,e3⟩:=l b (g0 _ a);refine⟨hn b a,e1,e2,.inl (g0 _ a),e3,λp D=>?_⟩;have ad:p∈[(s.heap.objs.size,o)]:=(ZX.mp D).elim (λz=>Zy (show p∈([]:List (Addr × Obj)) from z) (by simp)) id;rw[ZZ.mp ad];exact D2 (t b a)
 have P:Z2 (n6 X.prog X.w) X.A (.compLoop (.ListComp elt [⟨target,iter,ifs,0⟩] scope pos) 0 (.ref it) (.ref s.heap.objs.size) (X.comp scope N (N9 s) H (s.heap.objs.size::j)).env) (RR (.ref s.heap.objs.size) (N9 s).heap.objs.size)
   { N9 s with heap:=bK ((N9 s).heap.push { cls:=.type "dict",data:=.dict #[] }) scope.names }:=by
  refine uL (λn s'=>∃i ys f k H',D1 (X.comp scope N (N9 s) H (s.heap.objs.size::j)) [] (cu ix L) H' s'/\tn i s'.heap/\(∀b∈j,H' b=none)/\H' s.heap.objs.size=none /\
   s'.heap.get? s.heap.objs.size=some { cls:=.type "list",data:=.seq (f:List b9).toArray k }/\J9 ys f/\W i n ys H') ?_ m0
   ⟨0,[],[],0,H,J0,a5,λb a=>(Z b a).1,U.1,w _ _ a4,.nil,w0⟩
  rintro n s3 ⟨i,ys,f,k,H3,I3,a6,a7,d3,l3,v3,w3⟩;obtain⟨hz,hw⟩:=a3 i n ys H3 w3;have Q:D1 (X.comp scope N (N9 s) H (s.heap.objs.size::j)) [(s.heap.objs.size,{ cls:=.type "list",data:=.seq f.toArray k })] (cu ix L) H3 s3:=I3.pins_of λp D=>by rw[ZZ.mp D];exact⟨l3,d3,(l _ f7).1,(l _ f7).2.1,λv z=>by cases z⟩
  obtain⟨stop,fy⟩|⟨go,Ny,Nn,al,am,step⟩:=hw
  .refine Gv (T.done (X.comp scope N (N9 s) H (s.heap.objs.size::j)) rfl rfl rfl hc i _ s3 (cu ix L) H3 (λ_ _=>False) Q (A a7) a6 stop) λr s4 ⟨hr,I4⟩=>?_;subst hr;have q:=(I4.pin (s.heap.objs.size,_) (i9 _ f7)).1;exact fin ys H3 s4 _ f k (I4.pins_of λp D=>by cases D) d3 q v3 hz fy
  .refine Gv (T.item (X.comp scope N (N9 s) H (s.heap.objs.size::j)) rfl rfl rfl hc i _ s3 (cu ix L) H3 (λ_ _=>False) Q (A a7) a6 go) λr s4 ⟨u,hr,h4⟩=>?_;subst hr;refine Gv h4 λ_ s5 ⟨x,H5,I5,r5,y5,K,an⟩=>?_;have ap:=I5.pinned (A an) (T.obj _ _ K);refine Gv (hg (N9 s) H (s.heap.objs.size::j) _ s5 (cu ix L) H5 x u _ ap r5 (step x H5 y5)) λ_ s6 ⟨a8,H6,I6,M,q6⟩=>?_;refine Gv (ht (N9 s) H (s.heap.objs.size::j) _ s6 a8 H6 _ I6 q6) λok s7 ⟨H7,Y,q7⟩=>?_;cases ok with
   | false =>
    obtain⟨m',hm,w7⟩:=am H7 q7;refine⟨m',hm,i+1,ys,f,k,H7,(Y.weak M.1 M.2).pins_of (λp D=>by cases D),?_,λb a=>?_,?_,?_,v3,w7⟩
    .exact T.keep _ _ _ K λb a o e=>(Y.pin (b,o) (i9 _ (i9 _ (X3 a e)))).1
    .obtain⟨o,e,d⟩:=T.obj _ _ K b a;exact(Y.pin (b,o) (i9 _ (i9 _ (X3 a e)))).2.1
    .exact(Y.pin (s.heap.objs.size,_) (i9 _ (E9 _ f7))).2.1
    .exact(Y.pin (s.heap.objs.size,_) (i9 _ (E9 _ f7))).1
   | true =>
    show j8 _ _ _ _ _ _;refine C4 (he _ s7 a8 H7 _ Y.toE q7) (λyv s8 ar=>?_) ab;obtain⟨y,H8,ax,r8,ay⟩:=ar;have I8:=ax.ofE;obtain⟨m',hm,w8⟩:=al y H8 ay;have q8:=I8.pin (s.heap.objs.size,_) (i9 _ (E9 _ f7));refine Kh (l:=s.heap.objs.size) (items:=f.toArray) ⟨k,q8.1⟩ (λh' R sb=>?_) (by rw[A2,<- v3.length];exact hz);obtain⟨k',R⟩:=R;have I9:D1 (X.comp scope N (N9 s) H (s.heap.objs.size::j)) [] (cu ix L) H8 { s8 with heap:=h' }:=((I8.weak M.1 M.2).pins_of (pins':=[]) (λp D=>by cases D)).turned (t':=s8.toks) (it:=s.heap.objs.size)
     (λb o a e=>(sb.2 b a).trans e) q8.2.1 (l _ f7).1 (.inl f7) (l _ f7).2.2 (λp D=>Zy (show p∈([]:List (Addr × Obj)) from D) (by simp))
    refine⟨m',hm,i+1,ys++[y],f++[yv],k',H8,I9,?_,λb a=>?_,q8.2.1,?_,v3.append (.cons r8 .nil),w8⟩
    .refine T.keep _ _ _ K λb a o e=>(sb.2 b (y7 (t b a))).trans (I8.pin (b,o) (i9 _ (i9 _ (X3 a e)))).1
    .obtain⟨o,e,d⟩:=T.obj _ _ K b a;exact(I8.pin (b,o) (i9 _ (i9 _ (X3 a e)))).2.1
    .have e:f.toArray.push yv=(f++[yv]).toArray:=by simp
     rw[<- e];exact R
 exact KQ P (T.self _ 0 _ _ _ a5 P)
def Iq (K:X.calm=true) (L:PI X target iter wi) (M:∀s H f,PG (X.comp scope N s H f) target g) (O:∀s H f,Ce (X.comp scope N s H f) ifs tc)
  (P:∀a c H s i,D1 X a c H s->(∀b∈i,gZ X a H b)->PE (X.compE scope N (N9 s) H (s.heap.objs.size::i)) elt te)
  (w:scope.kind=.function) (d:gs scope=true) (y:aZ scope X.env=true) (j:iX scope X.N N ix=true) (hs:∀x,fV iter X.env x=pure x):
  PE X (.ListComp elt [⟨target,iter,ifs,0⟩] scope pos) (λc H Q=>wi c H λJ R=>Cj J (cu ix c) g tc te R λA k=>∀p,k p=none->Q (.ref p) (C3 k p (.lst A))):=by
 intro a s c H Q I h;rw[eval_ListComp];refine eF (use:=none) rfl hs (cM (I.closed y)) w (λx j l=>(fu d j).trans (by rw[l])) ?_;refine S6 (L a s c H _ I h) λv s1 U=>S6 U λV Y Z=>?_;obtain⟨it,i,tn,J,k,e,o,T,q,r,B⟩:=Z;subst e;refine Fe (RR:=λt C=>DP (n6 X.prog X.w) X.A X.xe none (EP X a c Q) t C) K w d y j M O (P _ _ _ _ _ o r) (λ_ _ z=>z) o T q r B ?_;intro A H' s' a0 a1 n D E l hv hz hF;obtain⟨m,hm,_⟩:=D.loc;exact⟨m,hm,λh' u=>⟨.ref Y.heap.objs.size,_,o.comp_end D r E l hv hz u,rfl,hF _ E⟩⟩
end
def vP.mono(d:vP fs S h h') (k:∀b,S b->a b):vP fs a h h':=⟨λb o n=>d.keep b o λz=>n (k b z),λb o n=>d.slot b o λz=>n (k b z)⟩
theorem vP.frames {fs:List Addr}{S:Addr->Prop}{h h' bs:Heap} (d:vP fs S h h'):∀{l:List Env},(∀b∈fR l,¬ S b)->h.FunFrames bs l->h'.FunFrames bs l
 | [],_,_=>trivial
 | a::aW,n,⟨g,⟨L,o,c,i,j,k⟩,p⟩=>by
  have m:∀b∈fR aW,b∈fR (a::aW):=λb f=>by unfold fR;rw[Y8,c];exact g0 _ f
  obtain⟨sl,e⟩:=d.slot L o (n L (by unfold fR;rw[Y8,c];exact f7)) j;exact⟨g,⟨L,_,c,i,e,k⟩,d.frames (λb f=>n b (m b f)) p⟩
def KB.same {a T:Addr}{v:b9} (x:KB h a C T v) (e1:h'.get? a=h.get? a) (e2:h'.get? T=h.get? T):KB h' a C T v:=by obtain⟨b,c,d,e,f,g,i,j,k,ne,l,m,n⟩:=x;exact⟨b,c,d,e,e1.trans f,g,i,j,k,ne,e2.trans l,m,n⟩
section
variable {P:j0}{w:w5}{K:m9}{mg:Str->Option b9}{base:Heap}{N N':List Str}{qual:Str}{scope scope':O9}{f:Addr}{cd:b9}{A:A3}{outer:List Env}{s₀:d9}{H₀:Hp}{E:XK}
def LV {r:List (Addr × Obj)}{σ:St}{H:Hp}{s:d9}{fp:List Addr} (I0:D1 (gw (fO P w) P w K mg base N qual scope f cd A outer s₀ H₀ E) r σ H s) (B:∀b∈fp,gZ (gw (fO P w) P w K mg base N qual scope f cd A outer s₀ H₀ E) r H b):
  fN (fO P w) ((gw (fO P w) P w K mg base N qual scope f cd A outer s₀ H₀ E).compE scope' N' (N9 s) H (s.heap.objs.size::fp)) E:=by
 generalize t:gw (fO P w) P w K mg base N qual scope f cd A outer s₀ H₀ E=X at I0 B ⊢;have hs:X.stack=X.env::X.outer:=by rw[<- t];rfl
 have D:X.env.frame=some X.env.locals:=by rw[<- t];rfl
 have V:X.ex=[]:=by rw[<- t];rfl
 have a5:X.pn=[]:=by rw[<- t];rfl
 have v:X.prog=P:=by rw[<- t];rfl
 have hw:X.w=w:=by rw[<- t];rfl
 have a6:∀e j,j8 (n6 P w) X.A (qY X.env e) (λ_ J=>fO P w X.outer X.H₀ X.s₀ E e J) (λe' J=>fO P w X.outer X.H₀ X.s₀ E e' J) j->X.xe e j:=by rw[<- t];exact λ_ _ h=>h
 clear t;intro a7 ax H1 s1 e j I h;obtain⟨a,C,Y,rfl,F,hE⟩:=h;obtain⟨Z,x,n1,n2,n3,n4⟩:=F.exc;rw[<- v,<- hw] at F;have Q:=I.call' (ch:=[]) F.os F.un F.hok F.bare (λb z=>Zy z (by simp));have Ia:D1 X [] σ H (N9 s):=(I0.pins_of (pins':=[]) λp v=>by cases v).kept (t':=s.toks) λb o e=>f6 _ e;have I1:D1 X [] σ H s:=I0.pins_of (pins':=[]) λp v=>by cases v
 have fD:gZ X [] H s.heap.objs.size:=I1.fpOk (i4 _) (I1.hok.fresh (i4 _));have i:D1 X [] σ Y j:=Ia.call' (ch:=s.heap.objs.size::fp) Q.os Q.base Q.hok Q.bare λb g=>by
  obtain z|z:=C7.mp g
  .rw[z];exact⟨fD.2.2.2.1,fD.2.1,fD.2.2.2.2.1,fD.2.2.2.2.2⟩
  .obtain⟨_,f1,_,f3,f4,_⟩:=B b z;exact⟨f3,f1,f4,λp v=>Zy (show p∈X.pn++[] from v) (by rw[a5];simp)⟩
 have hL:(N9 s).heap.objs.size=s.heap.objs.size+1:=aM s;obtain⟨m,a8,_⟩:=Q.loc;have a9:Y (N9 s).heap.objs.size=none:=Q.free;obtain⟨oC,es,ep,gC,dC,rC⟩:=a8;have L:j.heap.get? (N9 s).heap.objs.size=some oC:=gC;have xx:=x;obtain⟨oe,R,oT,ts,e1,e2,e3,e4,e5,ne,t1,t2,t3⟩:=xx;have a0:∀b∈fR X.stack,∃o,j.heap.get? b=some o/\∀R,o.data≠.fields R:=λb g=>(i.stack.mem g).2;have a1:∀b o,j.heap.get? b=some o->(∃R,o.data=.fields R)->b≠(N9 s).heap.objs.size:=λb o q ⟨R,d⟩ z=>by rw[z,L] at q;cases q;rw[dC] at d;cases d
 have M:(N9 s).heap.objs.size ∉ fR X.stack:=λz=>by obtain⟨_,o,y,_⟩:=Ia.stack.mem z;exact Zy (i5 y) (U0 _)
 have a2:∀b∈fR X.stack,b≠a/\b≠Z:=λb g=>by obtain⟨o,y,hd⟩:=a0 b g;exact⟨λz=>by rw[z,e1] at y;cases y;exact hd _ e4,λz=>by rw[z,t1] at y;cases y;exact hd _ t2⟩
 let S:Addr->Prop:=λb=>b=a ∨ b=Z ∨ b=(N9 s).heap.objs.size ∨ j.heap.objs.size<=b
 have nS:∀b∈fR X.stack,¬ S b:=λb g z=>by
  obtain⟨o,y,_⟩:=a0 b g;obtain z|z|z|z:=z
  .exact(a2 b g).1 z
  .exact(a2 b g).2 z
  .exact M (z ▸ g)
  .exact Zy (i5 y) (ZK.mpr z)
 have ab:∀b o,X.s₀.heap.get? b=some o->b ∉ s.heap.objs.size::fp:=λb o q z=>by
  have lt:=i5 q;obtain z|z:=C7.mp z
  .have:=I1.sz;rw[z] at lt;exact Zy (B5 lt this) (U0 _)
  .rcases (B b z).2.2.2.1 with z|z
   .rw[V] at z;cases z
   .exact Zy lt (ZK.mpr z)
 have k:∀b,b ∉ X.ex:=λb z=>by rw[V] at z;cases z
 have back:∀b,s1.heap.get? b=none->X.s₀.heap.get? b=none:=λb z=>by
  cases q:X.s₀.heap.get? b with
  | none=>rfl
  | some o =>
   obtain⟨o1,g1⟩:=Ia.base.there b o q (k b);obtain⟨o2,U⟩:=I.base.there b o1 g1 (ab b o q);rw[z] at U;cases U
 have Sn:∀b,S b->X.s₀.heap.get? b=none/\Y b=none:=λb z=>by
  obtain z|z|z|z:=z
  .rw[z];exact⟨back a n1,n3⟩
  .rw[z];exact⟨back Z n2,n4⟩
  .rw[z];exact⟨cH Ia.sz,a9⟩
  .exact⟨cH (j9 i.sz z),i.hok.fresh z⟩
 have fr:X.A.frames=some (X.env::X.outer):=by rw[i.ok.frames,hs]
 have ff:j.heap.FunFrames X.base (X.env::X.outer):=by rw[<- hs];exact i.stack
 rw[hs] at nS M;show j8 (n6 X.prog X.w) X.A (fC (.ref a) X.env) _ _ j;refine IT (S:=λb=>b=a ∨ b=Z) fr ff D x (by simp[N6]) (.inl rfl) (.inr rfl) λh1 T q1 q2 q3=>?_;have d1:vP (fR (X.env::X.outer)) S j.heap h1:=q3.mono λb z=>z.elim .inl λz=>.inr (.inl z);have a3:a≠(N9 s).heap.objs.size:=a1 a oe e1 ⟨R,e4⟩;have ac:T≠(N9 s).heap.objs.size:=λz=>by rw[z] at q2;exact Zy (i5 L) (ZK.mpr q2)
 have ad:h1.get? (N9 s).heap.objs.size=some oC:=q3.keep _ _ (λz=>z.elim (λz=>a3 z.symm) λz=>a1 Z oT t1 ⟨ts,t2⟩ z.symm) M L;have al:j.heap.objs.size<=h1.objs.size:=by obtain⟨_,_,_,_,_,_,_,_,_,_,tt,_⟩:=q1;exact aJ (P3 q2 (i5 tt))
 refine⟨m,⟨oC,es,ep,ad,dC,rC⟩,λh2 l ar O=>?_⟩;have d2:vP (fR (X.env::X.outer)) S h1 h2:=vP.of λb o g e=>(l.2 b (λz=>g (.inr (.inr (.inl z))))).trans e;have x2:KB h2 a C T (N6 X.env.locals):=q1.same (l.2 a a3) (l.2 T ac);have x3:=x2;obtain⟨ay,b0,b4,b5,u1,u2,u3,u4,u5,_⟩:=x3;unfold PySem.passOn;refine b7 (D5 (s:={ j with heap:=h2 }) u1 u4 u5 ?_);rw[ZC (show ¬ ((r6 T == B4)=true) from by simp)];refine b7 (tS (s:={ j with heap:=h2 }) (S:=S) x2 (.inr (.inr (.inr q2))) (fR (X.env::X.outer)) λh3 q4 am d3=>?_);refine qH (a6 _ _ ?_);have dA:=(d1.trans d2).trans d3;refine Mp (s:={ j with heap:=h3 }) (S:=S) fr (dA.frames nS ff) D q4 (.inl rfl) (.inr (.inr (.inr q2))) (λb g=>.inr (.inr (.inr (j9 al (by rw[<- l.1];rw[<- am];exact g))))) λh4 T2 q5 a4 d4=>?_;have dF:=dA.trans d4;have an:fR (X.env::X.outer)=X.env.locals::X.fs:=by unfold fR;rw[Y8,D];rfl
 have nn:∀b o,X.s₀.heap.get? b=some o->¬ S b:=λb o e z=>by rw[(Sn b z).1] at e;cases e
 have nl:∀b o,X.s₀.heap.get? b=some o->b ∉ X.fs->b ∉ fR (X.env::X.outer):=λb o e g z=>by
  rw[an] at z;obtain z|z:=C7.mp z
  .exact Zy (B5 (i5 e) (z ▸ i.ok.above)) (U0 _)
  .exact g z
 refine⟨a,C,Y,rfl,⟨i.os,i.bare,⟨λb o e n g _=>dF.keep b o (nn b o e) (nl b o e g) (i.base.keep b o e n g (k b)),λb o e n g _=>?_,λb o e n _=>i.base.free b o e n (k b),λb o e _=>?_,i.base.tups,i.base.frzs,i.base.tbls⟩,λb o e=>?_,T2,q5,back a n1,(Sn T2 a4).1,n3,(Sn T2 a4).2⟩,hE⟩
 .obtain⟨sl,g1⟩:=i.base.slot b o e n g (k b);obtain⟨ap,U⟩:=dF.slot b _ (nn b o e) g1;exact⟨ap,U⟩
 .obtain⟨o1,g1⟩:=i.base.there b o e (k b);obtain⟨sl,U⟩:=dF.slot b _ (nn b o e) g1;exact⟨_,U⟩
 .rw[<- v,<- hw];have tr:∀c u q,Y c=some u->j.heap.get? c=some q->h4.get? c=some q:=λc u q O e=>dF.keep c q (λz=>by rw[(Sn c z).2] at O;cases O) (λz=>by rw[i.stkFree c (by rw[hs];exact z)] at O;cases O) e;refine (i.hok b o e).stay (λc u O q=>?_) (λ_ q=>q) λ_ _ q=>q;obtain z|z:=O
  .subst z;exact tr _ _ u e q
  .exact tr _ _ u z q
end
end L2
namespace G
open PySem PySem.Spec PyProof.Rows L2 Mt
structure CtK (mg:Str->Option b9):Prop where
 letters:∃t,mg "MOST_LETTERS"=some (.int 8 t)
 figures:∃t,mg "FIGURES"=some (.str "0123456789" t)
def letP (c:Nat):Bool:=decide (97<=c)&&decide (c<=122)
def N8 (x:Str):Bool:=decide (1<=x.length)&&decide (x.length<=8)&&x.cps.toList.all letP
def NT (x:Str):Option Nat:=if x.length=1 then (C9 "0123456789" x 0 ("0123456789":Str).length 1).head? else none
def xS (x:Str):Option (List (List Int)):=if 4<(C9 x "/" 0 x.length (x.length+1)).length+1 then none else Kx (((C9 x "/" 0 x.length (x.length+1)).length+1:Nat):Int) x
def vg{n:Nat} (h:aD (n:Int) (DR rs)=true):Mt.jx n 5 rs:=by
 obtain⟨a,b,e,d,c⟩:=Be h;have:b=n:=by lia
 subst this;rw[Rb e];exact c
def Na(h:xS x=some rs):FR (DR rs):=by
 unfold xS at h;generalize (C9 x "/" 0 x.length (x.length+1)).length+1=n at h;by_cases a:4<n
 .rw[ZB a] at h;cases h
 .rw[ZC a] at h;have b:=vg (HM h).2;exact⟨yx (by rw[b.len];lia),ve b (by lia)⟩
section
variable {P:j0}{w:w5}{K:m9}{mg:Str->Option b9}{base:Heap}{f:Addr}{fd:C5}{ec:Nat->Addr}{Bs:Addr}
def AG (ec:Nat->Addr):Sp:=λb H Q E=>∃x:Str,b=[.str x]/\x.length<=900/\(N8 x=true->∀a,u7 H a->Q (.str x) a)/\(N8 x=false->∀a,u7 H a->E (.ref (ec 9)) none a)
abbrev Hu:Stmt:=top 61
def OW:C6 ["word"] ["word"] (A0 Hu):=aS
def Tn (c:Nat):decide ((iW c).cps.toList<("a":Str).cps.toList)=decide (c<97):=by
 have a:("a":Str).cps.toList=[97]:=by decide
 rw[a];refine decide_eq_decide.mpr ?_;show [c]<[97] ↔ _;rw[Ea];exact⟨λh=>h.elim id (λz=>by cases z.2),B6⟩
def Tj (c:Nat):decide (("z":Str).cps.toList<(iW c).cps.toList)=decide (122<c):=by
 have a:("z":Str).cps.toList=[122]:=by decide
 rw[a];refine decide_eq_decide.mpr ?_;show [122]<[c] ↔ _;rw[Ea];exact⟨λh=>h.elim id (λz=>by cases z.2),B6⟩
def Qc (F:aU K "name_read" "name_read" Hu f fd) (B:Bt mg) (C:CtK mg) (R:oJ K mg ec Bs):K6 P w K mg base (fO P w) 1 f fd ["word"] (AG ec):=by
 refine F.okX OW (λz H Q E h=>?_) (λD A k s H z Q E M h=>?_)
 .obtain⟨x,rfl,_⟩:=h;rfl
 obtain⟨x,rfl,N,l,a⟩:=h;obtain⟨I,J⟩:=C.letters;refine⟨_,m8 (R3 (PW.pt (vj (eP (HX vp vp A7 (D4 gx rfl B.len J8 (b8 (pv 0) i3)) (Q8 (v:=.int 8) rfl J ⟨I,rfl⟩)))
   (pF (eP (eO (D4 (jU rfl) rfl B.all boot_all (b8 (Q2 (N:=["letter"]) (ix:=[none]) (ifs:=[]) (tc:=ag) rfl (Ic (pv 0)) (λs H r=>dq (i:=0) (by decide) rfl (B6 rfl) (.inr rfl)) (λs H r=>P5)
    (λs H r=>sI vo vo n9 (pv 0) n9) rfl (by decide) (by rfl) (by rfl) (λ_=>rfl)) i3))))))) (u6 (aL R.e9 (R.xc 9 (by decide)) n9 (λO H Q S m q=>m _ _ q))) G0)
  (u6 (C8 (pv 0))),?_⟩
 refine⟨_,rfl,x,rfl,sz (by lia),_,_,rfl,rfl,_,rfl,?_⟩;unfold N8 at l a;by_cases t:1<=x.length
 rotate_left
 .rw[Zz (show ¬ (1:Int)<=(x.length:Int) by lia)];refine Z8 ⟨_,rfl,aA (a ?_ _ (u7.refl H))⟩;rw[Zz t];rfl
 rw[ZA (show (1:Int)<=(x.length:Int) by lia)];refine aA ⟨_,_,rfl,rfl,_,rfl,?_⟩;by_cases n:x.length<=8
 rotate_left
 .rw[Zz (show ¬ (x.length:Int)<=8 by lia)];refine aA (a ?_ _ (u7.refl H));rw[Zz n,nF];rfl
 rw[ZA (show (x.length:Int)<=8 by lia)];rw[ZA t,ZA n,T8,T8] at l a;refine Z8 ⟨_,rfl,x,rfl,?_⟩;refine MX (sz (show x.cps.size<=1000 from j9 n (by decide))) (λi g j=>j=H/\g=((x.cps.toList.take i).map letP).map V.bl/\i<=x.cps.size) ⟨rfl,rfl,A6 _⟩ (λi g j h=>by rw[h.2.1,d8,d8,B0,u9];exact ig h.2.2) rfl (λi c g j u h=>?_) (λg j h=>?_)
 .obtain⟨rfl,rfl,L⟩:=h;have d:i<x.cps.size:=(ZU.mp u).1;have o:x.cps.toList[i]?=some c:=by rw[G7];exact u
  have step:(x.cps.toList.take (i+1)).map letP=(x.cps.toList.take i).map letP++[letP c]:=by rw[D8,o,v9];rfl
  refine⟨_,rfl,"a",iW c,rfl,rfl,_,rfl,?_⟩;rw[Tn];unfold letP at step ⊢;by_cases c1:97<=c
  .rw[Zz (show ¬ c<97 by lia)];refine aA ⟨iW c,"z",rfl,rfl,?_⟩;rw[Tj];refine⟨rfl,?_,d⟩;rw[step,v9,ZA c1,T8];by_cases c2:c<=122
   .rw[ZA c2,Zz (show ¬ 122<c by lia)];rfl
   .rw[Zz c2,ZA (show 122<c by lia)];rfl
  .rw[ZA (show c<97 by lia)];refine Z8 ⟨rfl,?_,d⟩;rw[step,v9,Zz c1,X5];rfl
 .obtain⟨rfl,rfl,_⟩:=h;rw[C0 (by rw[u9];exact i4 _)];intro p v;refine⟨p,_,rfl,.inl (.of j3),?_,_,rfl,?_⟩
  .rw[Z3];exact kF.mpr λb _=>by cases b <;> rfl
  .have e:(((x.cps.toList.map letP).map V.bl).all AA)=x.cps.toList.all letP:=by rw[Z3,Z3];rfl
   rw[e];cases y:x.cps.toList.all letP with
   | true=>exact Z8 ⟨_,rfl,l y _ (u7.new v)⟩
   | false=>exact aA (a y _ (u7.new v))
def AI (ec:Nat->Addr):Sp:=λb H Q E=>∃x:Str,b=[.str x]/\x.length<=900/\(∀k,NT x=some k->Q (.int k) H)/\(NT x=none->∀a,u7 H a->E (.ref (ec 9)) none a)
abbrev HC:Stmt:=top 62
def Pa:C6 ["word"] ["word"] (A0 HC):=aS
def Qk (F:aU K "figure_read" "figure_read" HC f fd) (B:Bt mg) (C:CtK mg) (R:oJ K mg ec Bs):K6 P w K mg base (fO P w) 1 f fd ["word"] (AI ec):=by
 refine F.okX Pa (λj H Q E h=>?_) (λl A d s H j Q E n h=>?_)
 .obtain⟨k,rfl,_⟩:=h;rfl
 obtain⟨x,rfl,o,b,a⟩:=h;obtain⟨g,i⟩:=C.figures;refine⟨_,m8 (R3 (PW.pt (vj (J1 iB (D4 gx rfl B.len J8 (b8 (pv 0) i3)) A7 (N2 _)) (pF (J1 Bm (pv 0) (Q8 (v:=.str "0123456789") rfl i ⟨g,rfl⟩) (by rfl))))) (u6 (aL R.e9 (R.xc 9 (by decide)) n9 (λp H Q r m q=>m _ _ q))) G0)
  (u6 (C8 (cz E6 kA ya vw (Q8 (v:=.str "0123456789") rfl i ⟨g,rfl⟩) (b8 (pv 0) i3)))),?_⟩
 refine⟨_,rfl,_,rfl,sz (by lia),rfl,_,rfl,?_⟩;unfold NT at b a;by_cases c:x.length=1
 rotate_left
 .rw[Zz (show ¬ V.int (x.length:Int)=V.int 1 from λz=>c (by injection z with z;lia))];rw[ZC c] at a;exact aA (a rfl H (u7.refl H))
 rw[ZA (show V.int (x.length:Int)=V.int 1 by rw[c];rfl)];rw[ZB c] at b a;refine Z8 ⟨_,rfl,x,"0123456789",rfl,rfl,_,rfl,?_⟩;cases e:C9 "0123456789" x 0 ("0123456789":Str).length 1 with
 | nil =>
  rw[e] at a;exact aA (a rfl H (u7.refl H))
 | cons k aW =>
  rw[e] at b;refine Z8 ?_;exact⟨rfl,_,rfl,_,_,k,aW,rfl,rfl,e,b k rfl⟩
def AM (ec:Nat->Addr):Sp:=λc H Q E=>∃(x:Str) (l:Addr) (o:HO),c=[.str x]/\x.length<=900/\H l=some o/\(xS x=none->∀a,u7 H a->E (.ref (ec 9)) none a)/\∀b,xS x=some b->∀p a,u7 H a->Dt l a (DR b) (.ref p)->Q (.ref p) a
abbrev HG:Stmt:=top 63
def GU:C6 ["word","rows"] ["word"] (A0 HG):=aS
def Qn (F:aU K "any_rule_read" "any_rule_read" HG f fd) (C:Ct mg) (R:oJ K mg ec Bs) (c1:Z9 P w K mg base 6 "rule_read" ["kinds","text"] (GG ec)):K6 P w K mg base (fO P w) 7 f fd ["word"] (AM ec):=by
 refine F.okX GU (λj H Q E h=>?_) (λk A c s H j Q E p h=>?_)
 .obtain⟨x,l,o,rfl,_⟩:=h;rfl
 obtain⟨d,g⟩:=C.kinds;refine⟨_,(m8 (F7 (i:=1) GU.nd rfl (B6 rfl) (y8 dI (cz E6 yb PySem.F.type_str_count EH (pv 0) (b8 n9 i3)) A7))
  (m8 (R3 (J1 IA (pv 1) (Q8 (v:=.int 4) rfl g ⟨d,rfl⟩) (N2 _)) (u6 (aL R.e9 (R.xc 9 (by decide)) n9 (λv H Q y m q=>m _ _ q))) G0)
  (u6 (C8 (Q9 c1 p rfl U7 (b8 (pv 1) (b8 (pv 0) i3))))))),?_⟩
 obtain⟨x,l,o,rfl,r,u,a,b⟩:=h;unfold xS at a b;refine⟨_,rfl,rfl,_,_,rfl,rfl,_,_,rfl,rfl,?_⟩;try dsimp only
 generalize (C9 x "/" 0 x.length (x.length+1)).length=m at a b;refine⟨_,rfl,_,_,rfl,rfl,_,rfl,?_⟩;by_cases i:4<m+1
 .rw[ZB i] at a;rw[ZA (show ((m:Nat):Int)+1 > 4 by lia)];exact aA (a rfl H (u7.refl H))
 .rw[ZC i] at a b;rw[Zz (show ¬ ((m:Nat):Int)+1 > 4 by lia)];refine Z8 ⟨_,rfl,_,rfl,l,o,.int ((m:Int)+1),.str x,_,_,rfl,u,Dt.int _ _ _,Dt.str _ _ _,λz=>?_,λn e B D=>⟨(λz=>by cases z),λt e2=>?_⟩⟩
  .have:cD 1 4 (.int ((m:Int)+1))=(decide (1<=(m:Int)+1)&&decide ((m:Int)+1<=4)):=rfl;rw[this,ZA (by lia),ZA (by lia)] at z;cases z
  .cases e;cases e2;exact⟨r,a,b⟩
inductive Wd where
 | name (x:Str)
 | urn (ns:List Int)
 | rule (rs:List (List Int))
 | fig (k:Nat)
deriving DecidableEq
def av (a x:Str):Option Wd:=if a="name" then (if N8 x=true then some (.name x) else none) else if a="urn" then (Au x).map .urn else if a="rule" then (xS x).map .rule else (NT x).map .fig
def RC (z:Addr) (H:Hp):Wd->V->Prop
 | .name x,v=>v=.str x
 | .urn ns,v=>∃a,v=.ref a/\H a=some (.tup (ns.map V.int))
 | .rule b,v=>Dt z H (DR b) v/\FR (DR b)
 | .fig k,v=>v=.int k
theorem RC.same {z:Addr}{H H':Hp}{v:V}:∀{d:Wd},RC z H d v->u7 H H'->RC z H' d v
 | .name _,h,_=>h
 | .urn _,⟨a,e,h⟩,g=>⟨a,e,g _ _ h⟩
 | .rule b,h,g=>⟨h.1.kp (g.kp z),h.2⟩
 | .fig _,h,_=>h
def GC (ec:Nat->Addr):Sp:=λc H Q E=>∃(b x:Str) (z:Addr) (e:HO),c=[.str b,.str x]/\x.length<=900/\H z=some e/\(av b x=none->∀a,u7 H a->E (.ref (ec 9)) none a)/\∀d,av b x=some d->∀v a,u7 H a->RC z a d v->Q v a
abbrev Pc:Stmt:=top 64
def SB:C6 ["form","word"] ["form","word"] (A0 Pc):=aS
def SS (F:aU K "word_read" "word_read" Pc f fd) (c1:Z9 P w K mg base 1 "name_read" ["word"] (AG ec)) (c2:Z9 P w K mg base 6 "urn_read" ["text"] (GF ec)) (c3:Z9 P w K mg base 1 "figure_read" ["word"] (AI ec)) (c4:Z9 P w K mg base 7 "any_rule_read" ["word"] (AM ec)):K6 P w K mg base (fO P w) 8 f fd ["form","word"] (GC ec):=by
 refine F.okX SB (λu H Q E h=>?_) (λv A o s H u Q E l h=>?_)
 .obtain⟨m,x,z,r,rfl,_⟩:=h;rfl
 obtain⟨m,x,z,r,rfl,n,y,d,e⟩:=h;refine⟨_,m8 (R3 (J1 eg (pv 0) n9 (N2 _)) (u6 (C8 (Q9 (c1.up (by decide)) l rfl U7 (b8 (pv 1) i3)))) G0)
  (m8 (R3 (J1 eg (pv 0) n9 (N2 _)) (u6 (C8 (Q9 (c2.up (by decide)) l rfl U7 (b8 (pv 1) i3)))) G0)
  (m8 (R3 (J1 eg (pv 0) n9 (N2 _)) (u6 (C8 (Q9 c4 l rfl U7 (b8 (pv 1) i3)))) G0)
  (u6 (C8 (Q9 (c3.up (by decide)) l rfl U7 (b8 (pv 1) i3)))))),?_⟩
 have j:∀{a b:Str},decide (V.str a=V.str b)=decide (a=b):=λ{a b}=>decide_eq_decide.mpr ⟨λz=>by injection z,λz=>by rw[z]⟩;unfold av at d e;refine⟨_,rfl,rfl,_,rfl,?_⟩;rw[j];by_cases e1:m="name"
 .rw[ZB e1] at d e;rw[ZA e1];refine aA ⟨_,rfl,x,rfl,n,λc i g=>?_,λc i g=>?_⟩
  .rw[ZB c] at e;exact e _ rfl _ i g rfl
  .rw[ZC (by rw[c];decide)] at d;exact d rfl i g
 rw[ZC e1] at d e;rw[Zz e1];refine Z8 ⟨_,rfl,rfl,_,rfl,?_⟩;rw[j];by_cases e2:m="urn"
 .rw[ZB e2] at d e;rw[ZA e2];refine aA ⟨_,rfl,z,.str x,.str x,rfl,Dt.str _ _ _,(λz=>by cases z),λt B=>?_⟩;cases B;refine⟨n,λc i g=>?_,λns c p i g _ q=>?_⟩
  .rw[c] at d;exact d rfl i g
  .rw[c] at e;exact e _ rfl _ i g ⟨p,rfl,q⟩
 rw[ZC e2] at d e;rw[Zz e2];refine Z8 ⟨_,rfl,rfl,_,rfl,?_⟩;rw[j];by_cases e3:m="rule"
 .rw[ZB e3] at d e;rw[ZA e3];refine aA ⟨_,rfl,x,z,r,rfl,n,y,λc i g=>?_,λD c p i g q=>?_⟩
  .rw[c] at d;exact d rfl i g
  .have C:=Na c;rw[c] at e;exact e _ rfl _ i g ⟨q,C⟩
 rw[ZC e3] at d e;rw[Zz e3];refine Z8 ⟨_,rfl,x,rfl,n,λk c=>?_,λc i g=>?_⟩
 .rw[c] at e;exact e _ rfl _ H (u7.refl H) rfl
 .rw[c] at d;exact d rfl i g
end
structure xD (K:m9) (w:w5) (mg:Str->Option b9) (dl:Addr) (f:Str->Option b9):Prop where
 m:mg "LINES"=some (.ref dl)
 top:Ka K w dl f
def DE (K:m9) (f:Str->Option b9) (a:Str) (fos:List Str):Prop:=∃t:Addr,f a=some (.ref t)/\∀H,jb K H t (fos.map V.str)
def vh:List (Str × List Str):=[("urn",["name","urn"]),("draw",["name","rule","figure","name"]),("kept",[]),("show",["name"]),("chance",["name","figure"]),("stands",["name","rule","figure"]),("mean",["name","rule","figure"]),("fair",["name","rule"])]
def fA (a:Str):Option (List Str):=(vh.find? λr=>decide (r.1=a)).map (·.2)
structure Kd (K:m9) (f:Str->Option b9):Prop where
 no:∀a,fA a=none->f a=none
 yes:∀a fos,fA a=some fos->DE K f a fos
def O3:List Str->List Str->Option (List Wd)
 | b::a,x::c=>match av b x,O3 a c with
  | some d,some e=>some (d::e)
  | _,_=>none
 | _,_=>some []
def bf (t:Str):Option (Str × List Wd):=match B1 t " " with
 | []=>none
 | a::c=>match fA a with
  | none=>none
  | some b=>if b.length=c.length then (O3 b c).map λd=>(a,d) else none
def JH(h:fA a=some fos):fos.length<=4:=by
 unfold fA at h;obtain⟨r,b,rfl⟩:=Zt.mp h;have c:=jB b;have:∀r∈vh,r.2.length<=4:=by decide
 exact this r c
def vO (z:Addr) (H:Hp):List Wd->List V->Prop
 | [],a=>a=[]
 | d::c,a=>∃v b,a=v::b/\RC z H d v/\vO z H c b
theorem vO.same {z:Addr}{H H':Hp}:∀{ds:List Wd}{ys:List V},vO z H ds ys->u7 H H'->vO z H' ds ys
 | [],_,h,_=>h
 | _::_,_,⟨v,a,e,b,c⟩,g=>⟨v,a,e,b.same g,vO.same c g⟩
theorem vO.snoc {z:Addr}{H:Hp}{d:Wd}{v:V} (a:RC z H d v):∀{ds:List Wd}{ys:List V},vO z H ds ys->vO z H (ds++[d]) (ys++[v])
 | [],ys,h=>by rw[show ys=[] from h];exact⟨v,[],rfl,a,rfl⟩
 | e::ds,_,⟨u,b,rfl,c,f⟩=>⟨u,b++[v],rfl,c,vO.snoc a f⟩
theorem vO.len {z:Addr}{H:Hp}:∀{ds:List Wd}{ys:List V},vO z H ds ys->ys.length=ds.length
 | [],ys,h=>by rw[show ys=[] from h];rfl
 | _::ds,_,⟨u,b,rfl,_,a⟩=>by rw[n5,n5,vO.len a]
theorem yi {c x:Str}:∀{fos ws:List Str}{i:Nat},fos[i]?=some c->ws[i]?=some x->av c x=none->O3 fos ws=none
 | f::fos,y::ws,0,a,b,h=>by
  cases a;cases b;unfold O3;rw[h]
 | f::fos,y::ws,i+1,a,b,h=>by
  have:=yi (fos:=fos) (ws:=ws) (i:=i) (by simpa using a) (by simpa using b) h;unfold O3;rw[this];cases av f y <;> rfl
 | [],_,_,a,_,_=>by simp at a
 | _::_,[],_,_,b,_=>by simp at b
theorem uR:∀{fos ws:List Str}{ds:List Wd},fos.length=ws.length->ds.length=ws.length->(∀(i:Nat) e x d,fos[i]?=some e->ws[i]?=some x->ds[i]?=some d->av e x=some d)->O3 fos ws=some ds
 | [],[],[],_,_,_=>rfl
 | e::fos,x::ws,d::ds,f,g,h=>by
  unfold O3;rw[h 0 e x d rfl rfl rfl,uR (by simpa using f) (by simpa using g) λi e x d a b c=>h (i+1) e x d (by simpa using a) (by simpa using b) (by simpa using c)]
 | [],_::_,_,f,_,_=>by simp at f
 | _::_,[],_,f,_,_=>by simp at f
 | [],[],_::_,_,g,_=>by simp at g
 | _::_,_::_,[],_,g,_=>by simp at g
section
variable {P:j0}{w:w5}{K:m9}{mg:Str->Option b9}{base:Heap}{f:Addr}{fd:C5}{ec:Nat->Addr}{Bs dl:Addr}{fL:Str->Option b9}
def GI (ec:Nat->Addr):Sp:=λg H Q E=>∃(st:Addr) (h:HO) (d:E7) (v:V),g=[v]/\H st=some h/\Dt st H d v/\(mW d=false->∀b,u7 H b->E (.ref (ec 9)) none b) /\
 ∀t,d=.str t->t.length<=900/\(bf t=none->∀b,u7 H b->E (.ref (ec 9)) none b)/\∀a c,bf t=some (a,c)->∀p l e b,u7 H b->b p=some (.tup [.str a,.ref l])->b l=some (.lst e)->vO st b c e->Q (.ref p) b
abbrev Pm:Stmt:=top 65
def GQ:C6 ["line","first","others"] ["line"] (A0 Pm):=aS
def Te (F:aU K "line_read" "line_read" Pm f fd) (B:Bt mg) (R:oJ K mg ec Bs) (L:xD K w mg dl fL) (LT:Kd K fL) (c1:Z9 P w K mg base 1 "need_text" ["thing"] (rY ec)) (c2:Z9 P w K mg base 8 "word_read" ["form","word"] (GC ec)):K6 P w K mg base (fO P w) 9 f fd ["line"] (GI ec):=by
 refine F.okX GQ (λvs H Q E h=>?_) (λac A a4 s H vs Q E hr h=>?_)
 .obtain⟨st,oz,d,v,rfl,_⟩:=h;rfl
 obtain⟨z,oz,d,v,rfl,hz,hd,q0,q1⟩:=h;refine⟨_,m8 (aw (Q9 (c1.up (by decide)) hr rfl U7 (b8 (pv 0) i3)))
  (m8 (pH (cz E6 Y4 kq sS (pv 0) (b8 n9 i3)) (LP rfl (U6 (i:=1) GQ.nd rfl (B6 rfl)) (U6 (i:=2) GQ.nd rfl (B6 rfl))))
  (m8 (R3 (PW.pt (vj (J1 (Ez L.top) (pv 1) (Q8 (v:=.ref dl) rfl L.m rfl) (by rfl)) (pF (J1 iB (D4 R1 rfl B.len J8 (b8 (pv 2) i3)) (D4 R1 rfl B.len J8 (b8 (vk L.top (Q8 (v:=.ref dl) rfl L.m rfl) (pv 1) (λ_ _=>rfl)) i3)) (N2 _))))) (u6 (aL R.e9 (R.xc 9 (by decide)) n9 (λσ H Q Q' m q=>m _ _ q))) G0)
  (u6 (C8 (mQ (b8 (pv 1) (b8 (Iq (N:=["form","word"]) (ix:=[none,none]) (ifs:=[]) (tc:=ag) rfl (Ib rfl B.zip (b8 (vk L.top (Q8 (v:=.ref dl) rfl L.m rfl) (pv 1) (λ_ _=>rfl)) (b8 (pv 2) i3)))
   (λs H ex=>LO (K:=K) (n:=2) rfl rfl (X8 (dq (i:=0) (by decide) rfl (B6 rfl) (.inr rfl)) (X8 (dq (i:=1) (by decide) rfl (B6 rfl) (.inr rfl)) iA))) (λs H ex=>P5)
   (λab σ H s fp I0 a5=>Q9 c2 hr rfl (LV I0 a5) (b8 (pv 0) (b8 (pv 1) i3))) rfl (by decide) (by rfl) (by rfl) (λ_=>rfl)) i3))))))),?_⟩
 refine⟨_,rfl,z,d,v,rfl,hd,λhs=>?_,λhs=>q0 hs H (u7.refl H)⟩;obtain⟨t,rfl⟩:∃t,d=.str t:=by
  cases d with
  | str t=>exact⟨t,rfl⟩
  | _=>cases hs
 have ev:v=.str t:=by unfold Dt at hd;exact hd
 subst ev;obtain⟨h9,c,o⟩:=q1 t rfl;refine⟨_,rfl,rfl,_,_,rfl,rfl,by decide,h9,λZ a0=>?_⟩;have a1:∀x∈B1 t " ",x.length<=900:=λx C=>by
  have hw:=nK t " " (by decide);have:x.length<=((B1 t " ").map λy=>y.length).sum:=by
   generalize B1 t " "=l at C;clear hw a0;induction l with
   | nil=>cases C
   | cons a l ih =>
    rw[t8,X0];obtain e|e:=C7.mp C
    .rw[e];lia
    .have:=ih e;lia
  have u:=lF C;lia
 unfold bf at c o;cases D:B1 t " " with
 | nil =>
  have:=split_pos t " ";rw[D] at this;exact Zy this (by decide)
 | cons a k =>
 rw[D] at a1;have S:u7 H (C3 H Z (.lst ((a::k).map V.str))):=u7.new a0;have h1:C3 H Z (.lst ((a::k).map V.str)) Z=some (.lst (.str a::k.map V.str)):=j3;generalize C3 H Z (.lst ((a::k).map V.str))=H1 at S h1;refine⟨Z,.str a,k.map V.str,rfl,.of h1,λT a6=>?_⟩;have U:u7 H1 (C3 H1 T (.lst (k.map V.str))):=u7.new a6;have X:C3 H1 T (.lst (k.map V.str)) T=some (.lst (k.map V.str)):=j3;try dsimp -proj only[V5]
 generalize C3 H1 T (.lst (k.map V.str))=H2 at U X;rw[D] at c o;dsimp only at c o;refine⟨_,rfl,a,rfl,rfl,_,rfl,?_⟩;cases hf:fA a with
 | none =>
  rw[LT.no a hf];rw[hf] at c;exact aA (c rfl H2 (S.trans U))
 | some I =>
 rw[hf] at c o;dsimp only at c o;have ad:=JH hf;obtain⟨tt,J,ht⟩:=LT.yes a I hf;rw[J];refine Z8 ⟨_,rfl,T,_,rfl,.inl (.of X),_,rfl,a,.ref tt,_,rfl,rfl,J,rfl,tt,_,rfl,.inr (ht H2),rfl,_,rfl,?_⟩;rw[d8,d8];by_cases b:I.length=k.length
 rotate_left
 .rw[Zz (λe=>b (by injection e with e;lia))];rw[ZC b] at c;exact aA (c rfl H2 (S.trans U))
 rw[ZA (by rw[b])];rw[ZB b] at c o;refine Z8 ?_;refine⟨_,rfl,_,rfl,a,.ref tt,_,rfl,rfl,J,rfl,_,rfl,tt,T,_,_,rfl,ht H2,.of X,?_⟩;refine Fq (sz (by rw[d8];lia)) (by rw[d8,d8,b]) (λi Y M=>u7 H2 M/\∃n,vO z M n Y/\n.length=i/\∀(j:Nat) fo x d,I[j]?=some fo->k[j]?=some x->n[j]?=some d->av fo x=some d) ⟨u7.refl _,[],rfl,rfl,λj fo x y _ _ hy=>by simp at hy⟩ (λi Y M h=>by obtain⟨_,n,h1,X,_⟩:=h;rw[h1.len,X]) (λi Y M _ h=>⟨ht M,.of (h.1 _ _ X)⟩) ⟨rfl,rfl⟩ (λi Y M vx vy p C hy u h=>?_) (λY M h=>?_)
 .obtain⟨h4,n,h5,h6,h7⟩:=h;rw[w6] at C hy;obtain⟨fo,a2,rfl⟩:=Zt.mp C;obtain⟨x,N,rfl⟩:=Zt.mp hy;refine⟨_,rfl,_,rfl,fo,x,z,oz,rfl,a1 x (g0 _ (r0 N)),u7.new u _ _ (h4 _ _ (U _ _ (S _ _ hz))),λhn H4 g=>?_,λd a7 v H4 g hv=>?_⟩
  .refine c ?_ H4 (((S.trans U).trans h4).trans ((u7.new u).trans g));rw[yi a2 N hn];rfl
  .refine⟨h4.trans ((u7.new u).trans g),n++[d],(h5.same ((u7.new u).trans g)).snoc hv,by rw[y9,h6];rfl,λj a8 x' d' e1 e2 e3=>?_⟩;obtain hj|hj:=UU j i
   .rw[jC (by lia)] at e3;exact h7 j a8 x' d' e1 e2 e3
   .have a9:j=i:=by have:j<(n++[d]).length:=(ZW.mp e3).1;rw[y9,h6] at this;simp at this;lia
    subst a9;rw[jf (by lia),h6,UR] at e3;rw[a2] at e1;rw[N] at e2;cases e1;cases e2;cases e3;exact a7
 .obtain⟨h4,n,h5,h6,h7⟩:=h;rw[d8] at h6;intro p u;have a3:=uR b (by lia) h7;rw[a3] at o;refine⟨sz (Nat.le_of_ble_eq_true rfl),λr O=>o a n rfl r p Y _ (((S.trans U).trans h4).trans ((u7.new u).trans (u7.new O))) j3 (u7.new O _ _ j3) (h5.same ((u7.new u).trans (u7.new O)))⟩
end
end G
namespace L2
open PySem PySem.Spec PyProof.Rows
section
variable {prog:j0}{w:w5}{A:A3}{R:fZ->d9->Prop}{s:d9}{elt t0 i0 t1 i1:Expr}{fs:List Expr}{scope:O9}{pos:Pos}{it acc:b9}{env:Env}
end
section
variable {X:Cx}{scope:O9}{N:List Str}{ix:List (Option Nat)}{elt t0 i0 t1 i1:Expr}{fs:List Expr}{pos:Pos}{wi wj:TI}{g g1:TG}{te:TE}{tc:TT}
end
end L2
namespace L2
open PySem PySem.Spec PyProof.Rows HT
section
open PySem.SeqAt
open PySem.AutoSeq1 (wpAny_loadPart')
open PySem.MeetsSeq PySem.MeetsSeq2 PySem.MeetsSeq3
end
section
variable {prog:j0}{w:w5}{A:A3}{s:d9}
end
section
variable {X:Cx}
end
end L2
namespace L2
open PySem PySem.Spec PyProof.Rows
section
variable {X:Cx}{pins:List (Addr × Obj)}{σ:St}{H:Hp}{p d it:Addr}{rs:List Addr}{kvs:List (List O0 × V)}{A:A3}{R:fZ->d9->Prop}
end
end L2
namespace L2
open PySem PySem.Spec PyProof.Rows HT
section
variable {prog:j0}{w:w5}{A:A3}{E:b9->d9->Prop}{s:d9}
end
section
variable {X:Cx}{H:Hp}
end
def ltS (a b:Str):Bool:=decide (a.cps.toList<b.cps.toList)
section
variable {prog:j0}{w:w5}{A:A3}{E:b9->d9->Prop}{s:d9}
def zB {d:Addr}{kvs:List (O0 × b9)}{ep:Nat}{Q:List b9->d9->Prop} (D:A.handled=none) (lo:(d == R4)=false) (hd:s.heap.DictAt (P9 prog w) d kvs ep) (hsz:kvs.length<=j6)
  (h:∀t c g,t.length=kvs.length->(∀(j:Nat) v,t[j]?=some v->∃k x,kvs[j]?=some (k,x)/\tF k v=true)->s.heap.objs.size<c.objs.size->(∀b o,s.heap.get? b=some o->c.get? b=some o)->Q t { s with heap:=c,toks:=g }):j8 (n6 prog w) A (Um (.ref d)) Q E s:=by
 have lt:=hd.lt_size;unfold Um;refine b7 (wpAny_runValue (eZ Ks ?_));rw[aC Kr _];show j8 _ A.in1 (KJ [] >>= λl=>again (.builtin "list.__iadd__" ⟨[l,.ref d],[]⟩)) _ _ s;refine b7 (E4 (f9 ⟨iq kG _,eZ Rr ?_⟩));rw[aC kG _];have u:(s.heap.push { cls:=.type "list",data:=.seq ([]:List b9).toArray }).get? s.heap.objs.size=some { cls:=.type "list",data:=.seq #[] }:=j7 _ rfl;show j8 _ A.in1 (br (.ref s.heap.objs.size) (.ref d) (.ref s.heap.objs.size)) _ _ _;have key:=W.kdl_extend (A:=A) (s:={ s with heap:=s.heap.push { cls:=.type "list",data:=.seq ([]:List b9).toArray } }) (W.kdl_dict (prog:=prog) (w:=w) (knd:=P9 prog w) (kvs:=kvs) (ep:=ep) lo)
  (R:=λ(q:fZ) (B:d9)=>∃(c:Heap) (g:Nat) (a:Array b9) (m:Nat),q=.ok (.ret (.ref s.heap.objs.size))/\B={ s with heap:=c,toks:=g } /\
   (∀b o,s.heap.get? b=some o->c.get? b=some o)/\c.get? s.heap.objs.size=some { cls:=.type "list",dict:=none,data:=.seq a m,slots:=#[] }/\ItemsOf (λi v=>∃k x,kvs[i]?=some (k,x)/\(P9 prog w).is k v=true) a kvs.length)
  D (hd.push _) s.heap.objs.size (D2 lt) (D2 lt) (.ref s.heap.objs.size) 0 u
  (λc g a m H C n=>⟨c,g,a,m,rfl,rfl,λb o e=>H b o (y7 (i5 e)) (f6 _ e),C,n⟩) hsz
 have p:∀(c:Heap) (g:Nat) (a:Array b9) (m:Nat),(∀b o,s.heap.get? b=some o->c.get? b=some o)->c.get? s.heap.objs.size=some { cls:=.type "list",dict:=none,data:=.seq a m,slots:=#[] }->ItemsOf (λi v=>∃k x,kvs[i]?=some (k,x)/\(P9 prog w).is k v=true) a kvs.length ->
   j8 (n6 prog w) A (do
    let o <- load s.heap.objs.size
    match o.data with
    | .seq I _=>pure I.toList
    | _=>unsupported "internal:collect") Q E { s with heap:=c,toks:=g }:=λc g a m k1 k2 k3=>by
  refine b7 (RI k2 (f9 ?_));show Q a.toList _;exact h a.toList c g (by rw[u9];exact k3.1) (λj v e=>k3.2 j v (by rw[<- G7];exact e)) (i5 k2) k1
 refine C4 key (λfin B x=>?_) λe B x=>?_
 .cases fin with
  | done f =>
   obtain⟨c,g,a,m,e,rfl,k1,k2,k3⟩:=x;cases e;exact p c g a m k1 k2 k3
  | again c1 =>
   refine⟨x.1,dz x.2 λr J y=>?_⟩;obtain⟨c,g,a,m,e,rfl,k1,k2,k3⟩:=y;subst e;exact p c g a m k1 k2 k3
 .obtain⟨_,_,_,_,z,_⟩:=x;cases z
end
def Jq {a:Type}{kvs:List (a × V)}{vs:List (a × b9)} (h:KV kvs vs):kvs.length=vs.length:=by
 unfold KV at h;induction h with
 | nil=>rfl
 | cons _ _ b=>rw[n5,n5,b]
def Qr {a:Type}{kvs:List (a × V)}{vs:List (a × b9)} (h:KV kvs vs):kvs.map (·.1)=vs.map (·.1):=by
 unfold KV at h;induction h with
 | nil=>rfl
 | cons e _ b=>rw[t8,t8,b,e.1]
theorem uS:∀{a:List b9},(∀v∈a,∃x t,v=cI x t)->J9 ((a.map Uk).map V.str) a
 | [],_=>.nil
 | v::a,h=>by obtain⟨i,t,e⟩:=h v f7;subst e;exact .cons ⟨t,rfl⟩ (uS λv b=>h v (g0 _ b))
section
variable {X:Cx}{H:Hp}
end
end L2
namespace L2
open PySem PySem.Spec PyProof.Rows
structure lx (P:j0) (w:w5) (K:m9) (mg:Str->Option b9) (base:Heap) (C:Addr) (k:Nat) (m:Str) (ps:List Str) (sp:Sp):Prop where
 ex:∃f fd,Nf K C m f/\cO K fd ps []/\K6 P w K mg base (fO P w) k f fd ps sp
def lx.up {P:j0}{w:w5}{K:m9}{mg:Str->Option b9}{e:Heap}{C:Addr}{j k:Nat}{m:Str}{ps:List Str}{sp:Sp} (c:lx P w K mg e C j m ps sp) (h:j<=k):lx P w K mg e C k m ps sp :=
 let ⟨f,g,a,b,d⟩:=c.ex;⟨f,g,a,b,d.mono h⟩
def tMx (C:Addr) (m:Str) (sp:Sp) (E:XK) (d:TE) (t:TA):TE:=λb H Q=>d b H λx c=>∃a e fs,x=.ref a/\c a=some (.ins C e fs)/\fs.lookup m=none /\
 t b c λf g=>sp (x::f) g Q E
section
variable {X:Cx}{k:Nat}{C:Addr}{ps:List Str}{sp:Sp}{m:Str}{pos apos:Pos}{e o:Expr}{es:List Expr}{ta:TE}{t:TA}{E:XK}
def cK {pl:Sem Bool} (g:PE X o ta) (c:FS X.K C) (M:lx X.prog X.w X.K X.mg X.base C k m ps sp) (i:bD k X.A) (j:fN (fO X.prog X.w) X E) (l:PA X (e::es) t)
  (a:B9 (e::es) X.env=(false,eval e X.env)::B9 es X.env:=by rfl) (b:(Z7 pos (B9 es X.env)).any (·.1)=false:=by rfl)
  (n:eval (.Call (.Attribute o m apos) (e::es) [] pos) X.env=(do
   let d <- eval o X.env
   KH apos.atName
   let (f,first) <- nN [d] (xZ d m pl)
   callWith pos f first (Z7 pos (B9 (e::es) X.env)) (vU pos (lC [] X.env))):=by rfl):
  PE X (.Call (.Attribute o m apos) (e::es) [] pos) (tMx C m sp E ta t):=by
 obtain⟨f,r,p,q,F⟩:=M.ex;have h:=CO (pl:=pl) g c p F i q .nil j l a b n;have e:yo C m sp [] E ta t=tMx C m sp E ta t:=by funext σ H Q;unfold yo tMx;simp only[P4]
 rw[<- e];exact h
end
end L2
namespace G
open PySem PySem.Spec PyProof.Rows L2 Mt Md Mq
def UC (j:Nat):Stmt:=match top 67 with
 | .ClassDef _ _ _ b _ _ _ _ _ _ _=>b.getD j (.Pass ⟨0,0,0,0⟩)
 | s=>s
def fS (q:Rat):Str:=fT q.num (q.den:Int)
variable {ns:List Int}
def kL (h:aO 20 (DI ns)=true):Mt.jW ns.length 20 ns/\1<=ns.length/\ns.length<=4:=by
 obtain⟨a,e,b,c,d,f⟩:=uW h;have:ns=a:=by
  injection e with e
  exact ow (λx y z=>by injection z) _ _ e
 subst this;exact⟨⟨rfl,d,f⟩,b,c⟩
structure ud (K:m9) (C:Addr):Prop where
 cls:FS K C
 na:nq K C "urns_by_name"
def DG (C:Addr) (H:Hp) (d m:Addr) (kvs:List (O0 × V)):Prop:=∃a,H d=some (.ins C a [("urns_by_name",.ref m)])/\H m=some (.dK kvs)
inductive mi where
 | no (i:Nat)
 | tx (t:Str)
 | put (x:Str) (ns:List Int)
 | any
deriving DecidableEq
def LD:List Wd->Option (List (List Int) × Nat)
 | [.rule a,.fig k]=>some (a,k)
 | _=>none
section
variable {z:Addr}{H:Hp}{ds:List Wd}{ys:List V}
def Pq {rs:List (List Int)}{k:Nat} (h:LD ds=some (rs,k)) (b:vO z H ds ys):∃v,ys=[v,.int (k:Int)]/\Dt z H (DR rs) v/\FR (DR rs):=by
 unfold LD at h;split at h
 .cases h;obtain⟨v,j,c,⟨d,e⟩,x,f,g,i,a⟩:=b;exact⟨v,by rw[c,g,show f=[] from a,show x=.int _ from i],d,e⟩
 .cases h
end
def uO (ns:List Int) (a:Str) (ds:List Wd):mi :=
 if a="show" then .tx (nT ns)
 else if a="stands" ∨ a="mean" then (match LD ds with
  | some (b,k)=>if aD (ns.length:Int) (DR b)=false then .no 1 else if 6<k then .no 5 else if (ng b k [(ns,1)]).length<128 then .tx (if a="stands" then tx ((ng b k [(ns,1)]).length:Int) else C1 " " ((xR b ns k ns.length).map fS)) else .any
  | none=>.any)
 else .any
def UF (ec:Nat->Addr) (H:Hp) (Q:VK) (E:XK) (B:Str->List Int->Prop):mi->Prop
 | .no i=>∀a,u7 H a->E (.ref (ec i)) none a
 | .tx t=>∀a,u7 H a->Q (.str t) a
 | .put x ns=>B x ns
 | .any=>False
def Qq {T:T9}{a:List Int->Rat}{N E M C:Nat} (b:∀p∈T,Vq M C (a p.1)) (d:je N E T):Vq (M*N) (C*E*T.length) (uF T a):=by
 rw[tq];have:=wc (N:=M*N) (B:=C*E) (xs:=T.map λp=>a p.1*p.2) (λx f=>by obtain⟨p,c,e⟩:=ZY.mp f;rw[<- e];exact(b p c).mul (d p c))
 rw[d8] at this;exact this
def e84 {k:Nat} (k6:k<=6):4 ^ (k*k)*4 ^ k<=2 ^ 84:=by have a:k*k<=6*6:=N7 k6 k6;rw[<- X7];exact j9 (G4 (n:=4) (by decide) (show k*k+k<=42 by lia)) (by decide)
variable {n:Nat}
def Ti {k j:Nat}{rs:List (List Int)}(a:Mt.jx n 5 rs) (b:n<=4) (c:Mt.jW n 20 ns) (k6:k<=6):∀p∈ng rs k [(ns,1)],Vq 1 64 (zH p.1 j):=λp d=>by obtain⟨e,g,h,i⟩:=vI a b c k k6;have f:=(e p d).getD j;exact Jy (B:=64) f.1 (by lia)
def Jn {q:Rat} (d:0<=q.num) (e:q.num<10 ^ 574) (f:(q.den:Int)<10 ^ 574):(fS q).length<=1149:=by
 have a:=pe d e;have b:=pe (dX q.den) f;unfold fS fT;split
 .lia
 .show ((tx q.num).cps++(("/":Str).cps++(tx (q.den:Int)).cps)).size<=1149;rw[Kw,Kw];have c:("/":Str).cps.size=1:=lO;have g:(tx q.num).cps.size<=574:=a;have h:(tx (q.den:Int)).cps.size<=574:=b;lia
def Wr (q:Rat):Prop:=0<=q.num/\q.num<10 ^ 574/\(q.den:Int)<10 ^ 574
def Sd {x:Rat} (c:0<=x.num) (d:Bd n x) (h:(2:Int) ^ n<10 ^ 574):Wr x:=by
 have a:=d.num;have b:=d.den;refine⟨c,?_,?_⟩
 .exact bN (by have:((x.num.natAbs:Nat):Int)<=((2 ^ n:Nat):Int):=ZN.mpr a;rw[Ge c,Rq] at this;exact this) h
 .exact bN (by have:((x.den:Nat):Int)<=((2 ^ n:Nat):Int):=ZN.mpr b;rw[Rq] at this;exact this) h
def NM {k:Nat}{rs:List (List Int)}(a:Mt.jx n 5 rs) (b:n<=4) (c:Mt.jW n 20 ns) (k6:k<=6):∀x∈xR rs ns k n,Wr x:=λx g=>by
 obtain⟨o,p,h,j⟩:=vI a b c k k6;obtain⟨i,q,e⟩:=ZY.mp g;have d:Vq (1*LL ^ k) (64*4 ^ (k*k)*(ng rs k [(ns,1)]).length) x:=by rw[<- e];exact Qq (Ti a b c k6) h
 have f:1*LL ^ k<=2 ^ 1800:=by rw[FY];exact j9 (Cg k) (G4 (by decide) (by lia))
 have l:64*4 ^ (k*k)*(ng rs k [(ns,1)]).length<=2 ^ 90:=by
  have:(2:Nat) ^ 90=64*2 ^ 84:=by rw[show (64:Nat)=2 ^ 6 from rfl,<- X7]
  rw[Ut,this];exact V0 _ (j9 (V0 _ j) (e84 k6))
 have m:Bd 1890 x:=d.bd (nU (by decide) (xF k)) (by
  have:(2:Nat) ^ 1890=2 ^ 1800*2 ^ 90:=by rw[<- X7]
  rw[this];exact N7 f l) (j9 f (G4 (by decide) (by decide)))
 have big:(2:Int) ^ 1890<10 ^ 574:=by decide
 exact Sd (Rat.num_nonneg.mpr d.nn) m big
def RA {a b:Str} (h:a≠b):decide (V.str a=V.str b)=false:=Zz λz=>h (by injection z)
def Sb(h:a=b):decide (V.str a=V.str b)=true:=ZA (by rw[h])
section
variable {P:j0}{w:w5}{K:m9}{mg:Str->Option b9}{base:Heap}{f:Addr}{fd:C5}{ec:Nat->Addr}{Bs dl C:Addr}
def AN (ec:Nat->Addr):Sp:=λe H Q E=>∃(st u b:Addr) (ns:List Int) (a:Str) (c:List V) (d:List Wd),e=[.str a,.ref u,.ref b]/\H b=some (.lst c)/\vO st H d c/\Dt st H (DI ns) (.ref u)/\aO 20 (DI ns)=true/\UF ec H Q E (λ_ _=>False) (uO ns a d)
abbrev HH:Stmt:=top 66
def Pb:C6 ["asked","urn","others"] ["asked","urn","others"] (A0 HH):=aS
def Qo (F:aU K "answer" "answer" HH f fd) (B:Bt mg) (B2:KD mg) (c1:Y1 P w K mg base 6 "urn_text" ["urn"] GD) (c2:Y1 P w K mg base 1 "fraction_text" ["fraction"] pA) (c4:Z9 P w K mg base 7 "stands" ["urn","rule","draws"] (yr ec)) (c5:Z9 P w K mg base 8 "mean" ["urn","rule","draws"] (CB ec)):K6 P w K mg base (fO P w) 10 f fd ["asked","urn","others"] (AN ec):=by
 refine F.okX Pb (λvs H Q E h=>?_) (λa5 A Z s H vs Q E c h=>?_)
 .obtain⟨st,u,y,ns,a,g,ds,rfl,_⟩:=h;rfl
 refine⟨_,(m8 (R3 (J1 eg (pv 0) n9 (N2 _)) (u6 (C8 (D9 (c1.up (by decide)) c rfl (b8 (pv 1) i3)))) G0)
  (m8 (R3 (J1 eg (pv 0) n9 (N2 _)) pG G0)
  (m8 (R3 (J1 eg (pv 0) n9 (N2 _)) (u6 (C8 (G9 R0 rfl B2.str dc (b8 (D4 R1 rfl B.len J8 (b8 (Q9 (c4.up (by decide)) c rfl U7 (b8 (pv 1) (b8 (R5 U8 (pv 2) A7 (λ_ _=>rfl)) (b8 (R5 U8 (pv 2) A7 (λ_ _=>rfl)) i3)))) i3)) i3)))) G0)
  (m8 (R3 (J1 eg (pv 0) n9 (N2 _)) (u6 (C8 (cz E6 Q5 Q4 iG n9 (b8 (Q2 (N:=["middle"]) (ix:=[none]) (ifs:=[]) (tc:=ag) rfl (mP (Q9 (c5.up (by decide)) c rfl U7 (b8 (pv 1) (b8 (R5 U8 (pv 2) A7 (λ_ _=>rfl)) (b8 (R5 U8 (pv 2) A7 (λ_ _=>rfl)) i3)))))
   (λs H ex=>dq (i:=0) (by decide) rfl (B6 rfl) (.inr rfl)) (λs H ex=>P5) (λs H ex=>(D9 (c2.up (by decide)) c rfl (b8 (pv 0) i3))) rfl (by decide) (by rfl) (by rfl) (λ_=>rfl)) i3)))) G0)
  pG)))),?_⟩
 obtain⟨st,u,y,ns,a,g,ds,rfl,T,I,U,hu,q⟩:=h;obtain⟨hU,n1,n4⟩:=kL hu;have i0:∀(v:V) r,xB (v::r) 0=some v:=λv r=>M7 (j:=0) rfl;have i1:∀(v x:V) r,xB (v::x::r) 1=some x:=λv x r=>M7 (j:=1) rfl;have hl:il (DI ns)=ns.length:=gu ns;have J:js (DI ns):=jr (by lia);unfold uO at q;refine⟨_,rfl,rfl,_,rfl,?_⟩;by_cases e1:a="show"
 .rw[ZB e1] at q;rw[Sb e1];exact aA ⟨_,rfl,st,u,ns,ns.length,rfl,U,hU,n1,n4,q⟩
 rw[ZC e1] at q;rw[RA e1];refine Z8 ⟨_,rfl,rfl,_,rfl,?_⟩;by_cases e2:a="chance"
 .rw[ZC (by rw[e2];decide)] at q;exact q.elim
 rw[RA e2];refine Z8 ⟨_,rfl,rfl,_,rfl,?_⟩;by_cases m:a="stands" ∨ a="mean"
 .rw[ZB m] at q;cases hf:LD ds with
  | none=>rw[hf] at q;exact q.elim
  | some rk =>
   obtain⟨b,k⟩:=rk;obtain⟨v,ey,hv,ho⟩:=Pq hf I;subst ey;rw[hf] at q;dsimp only at q;have L:(∃i,Ra (DI ns) (DR b) (.int (k:Nat)) i/\∀M,u7 H M->E (.ref (ec i)) none M) ∨ (Nh st H ns.length ns b k u v/\∀M,u7 H M->Q (.str (if a="stands" then tx ((ng b k [(ns,1)]).length:Int) else C1 " " ((xR b ns k ns.length).map fS))) M):=by
    by_cases c:aD (ns.length:Int) (DR b)=false
    .rw[ZB c] at q;exact .inl ⟨1,.inr (.inl ⟨rfl,hu,by rw[hl];exact c⟩),q⟩
    .rw[ZC c] at q;have N:aD (ns.length:Int) (DR b)=true:=by simpa using c
     by_cases h6:6<k
     .rw[ZB h6] at q;refine .inl ⟨5,.inr (.inr ⟨rfl,hu,by rw[hl];exact N,?_⟩),q⟩;show (decide ((0:Int)<=k)&&decide ((k:Int)<=6))=false;rw[Zz (p:=(k:Int)<=6) (by lia),nF]
     .rw[ZC h6] at q;by_cases o:(ng b k [(ns,1)]).length<128
      .rw[ZB o] at q;exact .inr ⟨⟨U,hU,hv,vg N,n1,n4,by lia,o⟩,q⟩
      .rw[ZC o] at q;exact q.elim
   by_cases e3:a="stands"
   .rw[Sb e3];refine aA ⟨_,rfl,_,rfl,y,_,0,_,rfl,rfl,.of T,i0 _ _,_,rfl,y,_,1,_,rfl,rfl,.of T,i1 _ _ _,?_⟩;obtain⟨i,t,q⟩|⟨l,q⟩:=L
    .exact .inl ⟨st,_,_,_,DI ns,DR b,.int k,i,rfl,U,J,hv,ho,Dt.int _ _ _,t,q⟩
    .rw[ZB e3] at q;refine .inr ⟨st,u,v,_,k,ns,b,rfl,l,λD zs T' H1 g1 hT hD hB=>?_⟩;have a0:zs.length=(ng b k [(ns,1)]).length:=by rw[<- hT.length_eq];exact hB.len
     refine⟨D,_,rfl,.inl (.of hD),_,rfl,?_⟩;rw[a0];exact⟨mw (dX _) (bN (ZN.mpr (aJ l.l64)) (by decide)),q H1 g1⟩
   .have e4:a="mean":=m.elim (λz=>Zy z e3) id;rw[RA e3];refine Z8 ⟨_,rfl,rfl,_,rfl,?_⟩;rw[Sb e4];refine aA ⟨rfl,_,rfl,_,rfl,y,_,0,_,rfl,rfl,.of T,i0 _ _,_,rfl,y,_,1,_,rfl,rfl,.of T,i1 _ _ _,?_⟩;obtain⟨i,t,q⟩|⟨l,q⟩:=L
    .exact .inl ⟨st,_,_,_,DI ns,DR b,.int k,i,rfl,U,J,hv,ho,Dt.int _ _ _,t,q⟩
    .rw[ZC e3] at q;refine .inr ⟨st,u,v,_,k,ns,b,rfl,l,λp xs H1 g1 hx hF=>⟨p,rfl,⟨_,.of hx⟩,?_⟩⟩;have I:=NM l.ru l.n4 l.uu l.k6;have O:=hF.len;have a1:(xR b ns k ns.length).length=ns.length:=by unfold xR;rw[d8,fb]
     generalize xR b ns k ns.length=qs at I hF O a1 q;refine jV (K:=K) (a:=p) (xs:=xs) (sz (by lia)) (λj g R=>u7 H1 R/\g=((qs.take j).map fS).map V.str/\g.length=j) ⟨u7.refl _,rfl,rfl⟩ (λj g R h=>h.2.2) (λj g R _ h=>.of (h.1 _ _ hx)) rfl (λj g R z hz h=>?_) (λg R h=>?_)
     .obtain⟨X,Y,S⟩:=h;obtain⟨x,d,r,er,a2⟩:=hF.get hz;subst er;obtain⟨w0,w1,w2⟩:=I x (r0 d);refine⟨_,rfl,r,x.num,x.den,rfl,X _ _ a2,w0,w1,dX _,w2,λH3 g3=>⟨X.trans g3,?_,by rw[y9,S];rfl⟩⟩;rw[Y,D8,d,v9,v9];rfl
     .obtain⟨X,Y,S⟩:=h;rw[O,C0 (i4 _)] at Y;subst Y;intro pj a3;have a4:=dH (m:=1149) (ys:=qs.map fS) λz hz=>by obtain⟨x,d,e⟩:=ZY.mp hz;obtain⟨w0,w1,w2⟩:=I x d;rw[<- e];exact Jn w0 w1 w2
      rw[d8] at a4;refine⟨_,pj,qs.map fS,rfl,rfl,.of j3,?_,q _ ((g1.trans X).trans (u7.new a3))⟩;rw[d8];have:(" ":Str).length=1:=by decide
      rw[this];lia
 rw[ZC m] at q;exact q.elim
def wt (C:Addr):Sp:=λb H Q _=>∃d a,b=[.ref d]/\H d=some (.ins C a [])/\∀m,H m=none->Q .non (C3 (C3 H m (.dK [])) d (.ins C a [("urns_by_name",.ref m)]))
abbrev Bc:Stmt:=UC 0
def LB:C6 ["self"] ["self"] (A0 Bc):=aS
def Me (F:aU K "__init__" "Desk.__init__" Bc f fd) (D:ud K C):K6 P w K mg base ee 1 f fd ["self"] (wt C):=by
 refine F.ok LB (λg H Q E h=>?_) (λi A a s H g Q E j h=>?_)
 .obtain⟨d,b,rfl,_⟩:=h;rfl
 obtain⟨d,b,rfl,c,q⟩:=h;refine⟨_,u6 (PD (pv 0) CP rfl),?_⟩;intro m e;refine⟨_,rfl,d,C,b,[],rfl,?_,D.cls,D.na,by decide,q m e⟩;rw[t9 (A5 c e)];exact c
def AD (C:Addr) (ec:Nat->Addr):Sp:=λc H Q E=>∃d m a x,c=[.ref d,.str x]/\DG C H d m a/\(∀v,fI a (B8 x)=some v->Q v H)/\(fI a (B8 x)=none->∀b,u7 H b->E (.ref (ec 0)) none b)
abbrev GY:Stmt:=UC 2
def OT:C6 ["self","name"] ["self","name"] (A0 GY):=aS
def PR (F:aU K "urn_by_name" "Desk.urn_by_name" GY f fd) (D:ud K C) (R:oJ K mg ec Bs):K6 P w K mg base (fO P w) 1 f fd ["self","name"] (AD C ec):=by
 refine F.okX OT (λk H Q E h=>?_) (λl A e s H k Q E j h=>?_)
 .obtain⟨d,m,a,x,rfl,_⟩:=h;rfl
 obtain⟨d,m,a,x,rfl,⟨g,i,o⟩,p,r⟩:=h;refine⟨_,m8 (R3 (Bh (vn (ki j) (pv 1) (wW (pv 0) rfl)) (by rfl)) (u6 (aL R.e0 (R.xc 0 (by decide)) n9 (λt H Q u m q=>m _ _ q))) G0)
  (u6 (C8 (wX (ki j) (wW (pv 0) rfl) (pv 1) (λ_ _=>rfl)))),?_⟩
 have b:jz H m (.str x) (fI a (B8 x)):=jz.k (k:=B8 x) o;cases c:fI a (B8 x) with
 | some v =>
  rw[c] at b;refine⟨_,rfl,_,rfl,d,C,g,_,_,rfl,i,D.cls,D.na,rfl,m,_,rfl,b,_,rfl,?_⟩;exact Z8 ⟨_,rfl,d,C,g,_,_,rfl,i,D.cls,D.na,rfl,_,rfl,m,v,rfl,b,p v c⟩
 | none =>
  rw[c] at b;refine⟨_,rfl,_,rfl,d,C,g,_,_,rfl,i,D.cls,D.na,rfl,m,_,rfl,b,_,rfl,?_⟩;exact aA (r c H (u7.refl H))
def wq (C:Addr):Sp:=λe H Q _=>∃(d m:Addr) (b:List (O0 × V)) (x:Str) (a st:Addr) (ns:List Int),e=[.ref d,.str x,.ref a]/\DG C H d m b/\b.length<=100/\Dt st H (DI ns) (.ref a)/\ns.length<=4 /\
 (aO 20 (DI ns)=true->∀c,u7 H c->Q (.str "ok") (C3 c m (.dK (aK b (B8 x) (.ref a)))))/\(aO 20 (DI ns)=false->∀c,u7 H c->Q (.str "full") c)
abbrev Bb:Stmt:=UC 3
def LA:C6 ["self","name","urn"] ["self","name","urn"] (A0 Bb):=aS
def Mc (F:aU K "keep" "Desk.keep" Bb f fd) (D:ud K C) (c1:Y1 P w K mg base 4 "is_urn" ["thing"] jo):K6 P w K mg base ee 5 f fd ["self","name","urn"] (wq C):=by
 refine F.ok LA (λk H Q E h=>?_) (λl A c s H k Q E g h=>?_)
 .obtain⟨d,m,e,x,a,st,ns,rfl,_⟩:=h;rfl
 obtain⟨d,m,e,x,a,st,ns,rfl,⟨o,p,q⟩,v,r,y,t,u⟩:=h;refine⟨_,m8 (R3 (eP (eO (D9 c1 g rfl (b8 (pv 2) i3)))) (u6 (C8 n9)) G0)
  (m8 (rn (ki g) (wW (pv 0) rfl) (pv 1) (pv 2) rfl) (u6 (C8 n9))),?_⟩
 refine⟨_,rfl,_,st,_,rfl,r,jr (by lia),λi b=>⟨_,rfl,?_⟩⟩;cases j:aO 20 (DI ns) with
 | true=>exact Z8 ⟨_,rfl,_,rfl,d,C,o,_,_,rfl,b _ _ p,D.cls,D.na,rfl,_,rfl,m,_,rfl,uQ.k (k:=B8 x) (b _ _ q) (jq (by lia)),t j i b⟩
 | false=>exact aA (u j i b)
end
end G
namespace L2
open PySem PySem.Spec PyProof.Rows HT
def Cd (a ms:List Str):Prop:=(a.length<2/\ms=a) ∨ 2<=a.length/\∃p:Array Nat,Rc (λi j b=>b=ltS (a.getD i "") (a.getD j "")) (jD a.length) p/\ms=p.toList.map λi=>a.getD i ""
theorem Cd.uniq {c ms ns:List Str} (d:Cd c ms) (e:Cd c ns):ms=ns:=by
 rcases d with ⟨l1,e1⟩|⟨l1,p,f,e1⟩ <;> obtain⟨l2,e2⟩|⟨l2,h,g,e2⟩:=e
 .rw[e1,e2]
 .lia
 .lia
 .rw[e1,e2,Rc.uniq (λ_ _ _ _ a b=>a.trans b.symm) f g]
open Classical in
noncomputable def Ek (a:List Str):List Str:=if h:∃b,Cd a b then choose h else []
def Cy {a ms:List Str} (h:Cd a ms):ms=Ek a:=by
 unfold Ek;have z:∃ms,Cd a ms:=⟨ms,h⟩
 rw[dif_pos z];exact h.uniq (Classical.choose_spec z)
section
variable {H:Hp}
def Py:List V->Hp->VK->Prop:=λe H Q=>∃(p:Addr) (a:List (O0 × V)) (b:List Str),e=[.ref p]/\H p=some (.dK a)/\a.map (·.1)=b.map B8/\b.length<64 /\
 ∀(D:Addr) (c:List Str) (d:Hp),c.Perm b->Cd b c->u7 H d->d D=some (.lst (c.map V.str))->Q (.ref D) d
def tW (hc:X.calm=true):cN X (.builtin "sorted") Py:=by
 intro a3 s σ H xs us Q I O h;obtain⟨p,K,l,rfl,P,m,a4,q⟩:=h;cases O with
 | cons r1 O =>
  cases O;cases r1;obtain⟨hz,lo,vs,kv,R⟩:=(show O4 X.prog X.w H s.heap p (.dK K) from I.hok p _ P)
  obtain⟨ep,R⟩:=R.dictAt;have S:=Jq kv;have hf:=Qr kv;have T:K.length=l.length:=by have:=Zu nz m;rwa [d8,d8] at this
  refine xQ kind_sorted plain_sorted entry_sorted (args_sorted1 _) ?_;unfold iw.«sorted»;refine b7 (m:=checkCount "sorted" 1 1 _) (f9 ?_);refine b7 (zB (by exact I.ok.hd hc) lo R (by lia) λa d U Y L Z k1=>?_);have c:∀v∈a,∃x t,v=cI x t:=λv hv=>by
   obtain⟨j,n⟩:=List.getElem?_of_mem hv;obtain⟨k,x,e1,e2⟩:=L j v n;have e3:(l.map (B8:Str->O0))[j]?=some k:=by rw[<- m,hf,w6,e1];rfl
   rw[w6] at e3;obtain⟨y,_,M⟩:=Zt.mp e3;rw[<- M] at e2;obtain⟨t,e⟩:=aR (x:=y) (v:=v) e2;exact⟨y,t,e⟩
  have r:a.map Uk=l:=by
   refine fg λj=>?_;rw[w6];cases n:a[j]? with
   | none =>
    have:a.length<=j:=List.getElem?_eq_none_iff.mp n;rw[au (by lia)];rfl
   | some v =>
    obtain⟨k,x,e1,e2⟩:=L j v n;have e3:(l.map (B8:Str->O0))[j]?=some k:=by rw[<- m,hf,w6,e1];rfl
    rw[w6] at e3;obtain⟨y,hy,M⟩:=Zt.mp e3;rw[<- M] at e2;obtain⟨t,e⟩:=aR (x:=y) (v:=v) e2;rw[hy,e];rfl
  refine b7 (lU ?_ (by rw[R7];lia));have hB:(d.push (Y2 "list" a.toArray 0)).get? d.objs.size=some (Y2 "list" a.toArray 0):=j7 _ rfl;have k2:∀b o,s.heap.get? b=some o->(d.push (Y2 "list" a.toArray 0)).get? b=some o:=λb o e=>f6 _ (k1 b o e);have a0:∀b o,s.heap.get? b=some o->b≠d.objs.size:=λb o e=>y7 (i5 (k1 b o e));show j8 _ _ _ _ _ { s with heap:=d.push (Y2 "list" a.toArray 0),toks:=U };refine b7 (F2 (G1 slot_list_sort ⟨_,hB,rfl⟩ entry_list_sort ?body (args_list_sort _)));have w:∀i,i<a.length->l.getD i ""=Uk (a.getD i B4):=λi f=>by rw[<- r,E5,E5,w6,j4 f];rfl
  refine Em (An:=λi j b=>b=ltS (l.getD i "") (l.getD j "")) (s:={ s with heap:=d.push (Y2 "list" a.toArray 0),toks:=U }) (vs:=a) hB (by lia) (λh2 h1 kp=>?_) (λh5 g c' z a1 kp a2=>?_)
  .obtain⟨D,E,aW,e⟩:∃D E aW,a=D::E::aW:=by
    match a,h2 with
    | D::E::aW,_=>exact⟨D,E,aW,rfl⟩
    | [_],h=>simp at h
    | [],h=>simp at h
   have hk:=keyKind_strs (v₁:=D) (v₂:=E) (vs:=aW) (ss:=(D::E::aW).map Uk) (strsAre_map _ (by rw[<- e];exact c));rw[<- e] at hk;rw[hk];refine f9 ⟨rfl,λi j C f n N=>?_⟩;have N:=N _ rfl;rw[w i f,w j n] at N;have gm:∀i,i<a.length->a.getD i B4∈a:=λi f=>by rw[E5,j4 f];exact af f
   unfold RO;obtain⟨x,t,ex⟩:=c _ (gm i f);obtain⟨y,u,M⟩:=c _ (gm j n);rw[ex,M] at N ⊢;rw[keyLt'_oneType];exact oneLt_str N
  .refine⟨_,rfl,f9 ⟨_,rfl,?_⟩⟩;have A:∀v∈g,∃i t,v=cI i t:=λv hv=>c v (z.mem_iff.mp hv);have k5:∀b o,s.heap.get? b=some o->h5.get? b=some o:=λb o e=>kp b o (a0 b o e) (k2 b o e);have J:=I.lays (N:=λb=>if b=d.objs.size then some (.lst ((g.map Uk).map V.str)) else none) (h':=h5) (t':=U) k5 (λb o hb e=>?_)
   .refine⟨.ref d.objs.size,_,J,rfl,q _ (g.map Uk) _ ?_ ?_ (λb o e=>?_) ?_⟩
    .rw[<- r];exact z.map _
    .rcases a1 with ⟨h1,rfl⟩|⟨h2,p,P,hr,rfl⟩
     .exact .inl ⟨by lia,r⟩
     .refine .inr ⟨by lia,p,by rw[<- T,S,<- Y];exact hr,?_⟩;rw[R8];exact Gb λi f=>(w i (ZT.mp (P.mem_iff.mp f))).symm
    .show (if b<s.heap.objs.size then H b else _)=some o;rw[ZB (I.hok.lt e)];exact e
    .show (if d.objs.size<s.heap.objs.size then H d.objs.size else (if d.objs.size=d.objs.size then _ else _))=_;rw[ZC (Nat.not_lt_of_lt Z),ZB rfl]
   .by_cases B:b=d.objs.size
    .rw[ZB B] at e;cases e;refine⟨?_,g,c',uS A,?_⟩
     .rw[d8,d8,z.length_eq,R7];lia
     .rw[B,a2]
    .rw[ZC B] at e;cases e
end
end L2
namespace G
open PySem PySem.Spec PyProof.Rows L2 Mt
def vz (U:List (Str × List Int)) (x:Str):Option (List Int):=(U.find? λr=>decide (r.1=x)).map (·.2)
def CZ:List Wd->Option (Str × List Wd)
 | .name x::r=>some (x,r)
 | _=>none
def Gr:List Wd->Option (List Int)
 | [.urn ns]=>some ns
 | _=>none
section
variable {z:Addr}{H:Hp}{ds:List Wd}{ys:List V}
def Mi {x:Str}{r:List Wd} (h:CZ ds=some (x,r)) (c:vO z H ds ys):∃a,ys=.str x::a/\vO z H r a:=by
 unfold CZ at h;split at h
 .cases h;obtain⟨v,a,d,e,b⟩:=c;exact⟨a,by rw[d,show v=.str _ from e],b⟩
 .cases h
def Ow {ns:List Int} (h:Gr ds=some ns) (c:vO z H ds ys):∃b,ys=[.ref b]/\H b=some (.tup (ns.map V.int)):=by
 unfold Gr at h;split at h
 .cases h;obtain⟨v,d,e,⟨b,eb,f⟩,a⟩:=c;exact⟨b,by rw[e,show d=[] from a,eb],f⟩
 .cases h
end
noncomputable def kB (U:List (Str × List Int)) (a:Str) (ds:List Wd):mi :=
 if a="kept" then .tx (C1 " " (Ek (U.map (·.1))))
 else match CZ ds with
  | some (x,r) =>
   if a="urn" then (match Gr r with
    | some ns=>if aO 20 (DI ns)=true then .put x ns else .any
    | none=>.any)
   else match vz U x with
    | none=>.no 0
    | some ns =>
     if a="draw" then .any
     else uO ns a r
  | none=>.any
noncomputable def qP (U:List (Str × List Int)):E7->mi
 | .str t=>match bf t with
  | none=>.no 9
  | some (a,b)=>kB U a b
 | _=>.no 9
def KU (H:Hp):List (Str × List Int)->List (O0 × V)->Prop
 | [],b=>b=[]
 | (x,ns)::U,b=>∃a r,b=(B8 x,.ref a)::r/\H a=some (.tup (ns.map V.int))/\aO 20 (DI ns)=true/\KU H U r
theorem KU.same {H H':Hp} (g:u7 H H'):∀{U:List (Str × List Int)}{kvs:List (O0 × V)},KU H U kvs->KU H' U kvs
 | [],_,h=>h
 | (_,_)::_,_,⟨a,r,e,b,c,d⟩=>⟨a,r,e,g _ _ b,c,KU.same g d⟩
theorem KU.keys {H:Hp}:∀{U:List (Str × List Int)}{kvs:List (O0 × V)},KU H U kvs->kvs.map (·.1)=(U.map (·.1)).map B8
 | [],_,h=>by rw[show _=[] from h];rfl
 | (x,ns)::U,_,⟨a,r,e,_,_,b⟩=>by rw[e,t8,t8,t8,KU.keys b]
def KU.len {H:Hp}{U:List (Str × List Int)}{kvs:List (O0 × V)} (h:KU H U kvs):kvs.length=U.length:=by
 have:=Zu nz h.keys
 rwa [d8,d8,d8] at this
theorem KU.val {H:Hp}{x:Str}:∀{U:List (Str × List Int)}{kvs:List (O0 × V)},KU H U kvs->(vz U x=none/\fI kvs (B8 x)=none) ∨ ∃ns a,vz U x=some ns/\fI kvs (B8 x)=some (.ref a)/\H a=some (.tup (ns.map V.int))/\aO 20 (DI ns)=true
 | [],kvs,h=>by rw[show kvs=[] from h];exact .inl ⟨rfl,rfl⟩
 | (y,ns)::U,_,⟨a,r,e,c,d,f⟩=>by
  rw[e];unfold vz;by_cases b:y=x
  .rw[lG (by simp[b]),jm (by rw[b])];exact .inr ⟨ns,a,rfl,rfl,c,d⟩
  .rw[lH (by simp[b]),gJ (λz=>b (by injection z))];exact KU.val f
section
variable {P:j0}{w:w5}{K:m9}{mg:Str->Option b9}{base:Heap}{f:Addr}{fd:C5}{ec:Nat->Addr}{Bs dl C:Addr}
def kN (C:Addr) (ec:Nat->Addr):Sp:=λe H Q E=>∃(d m:Addr) (b:List (O0 × V)) (U:List (Str × List Int)) (g:E7) (v:V),e=[.ref d,v]/\DG C H d m b/\KU H U b/\U.length<=50/\(∀r∈U,r.1.length<=8)/\Dt d H g v/\(∀t,g=.str t->t.length<=900) /\
 UF ec H Q E (λx ns=>∀a c,u7 H c->c a=some (.tup (ns.map V.int))->Q (.str "ok") (C3 c m (.dK (aK b (B8 x) (.ref a))))) (qP U g)
abbrev Hq:Stmt:=UC 1
def wA:C6 ["self","line","asked","others","urn"] ["self","line"] (A0 Hq):=aS
def PV (F:aU K "say" "Desk.say" Hq f fd) (D:ud K C) (B3:Ue mg) (c1:Z9 P w K mg base 9 "line_read" ["line"] (GI ec)) (c2:xH P w K mg base C 5 "keep" ["self","name","urn"] (wq C)) (c3:lx P w K mg base C 1 "urn_by_name" ["self","name"] (AD C ec)) (c4:Z9 P w K mg base 10 "answer" ["asked","urn","others"] (AN ec)):K6 P w K mg base (fO P w) 11 f fd ["self","line"] (kN C ec):=by
 refine F.okX wA (λO H Q E h=>?_) (λa9 A a1 s H O Q E hr h=>?_)
 .obtain⟨d,m,n,U,g,v,rfl,_⟩:=h;rfl
 refine⟨_,m8 (pH (Q9 (c1.up (by decide)) hr rfl U7 (b8 (pv 1) i3)) (sG rfl (X8 (U6 (i:=2) wA.nd rfl (B6 rfl)) (X8 (U6 (i:=3) wA.nd rfl (B6 rfl)) iA))))
  (m8 (R3 (J1 eg (pv 2) n9 (N2 _)) (u6 (C8 (cz E6 Q5 Q4 iG n9 (b8 (D4 (tW rfl) rfl B3.sorted lj (b8 (wW (pv 0) rfl) i3)) i3)))) G0)
  (m8 (R3 (J1 eg (pv 2) n9 (N2 _)) (u6 (C8 (LR (pv 0) D.cls (c2.up (by decide)) hr (b8 (R5 U8 (pv 3) A7 (λ_ _=>rfl)) (b8 (R5 U8 (pv 3) A7 (λ_ _=>rfl)) i3))))) G0)
  (m8 (F7 (i:=4) wA.nd rfl (B6 rfl) (cK (pv 0) D.cls (c3.up (by decide)) hr U7 (b8 (R5 U8 (pv 3) A7 (λ_ _=>rfl)) i3)))
  (m8 (R3 (J1 eg (pv 2) n9 (N2 _)) pG G0)
  (u6 (C8 (Q9 c4 hr rfl U7 (b8 (pv 2) (b8 (pv 4) (b8 (Y9 wz (pv 3) (aX A7) aY) i3)))))))))),?_⟩
 obtain⟨d,m,n,U,g,v,rfl,⟨X,hd,hm⟩,hK,a8,hN,hg,h9,q⟩:=h;refine⟨_,rfl,d,_,g,v,rfl,hd,hg,λhs H' j=>?_,λt et=>?_⟩
 .have:qP U g=.no 9:=by
   cases g with
   | str t=>cases hs
   | _=>rfl
  rw[this] at q;exact q H' j
 subst et;refine⟨h9 t rfl,λhn H' j=>?_,λa R hl p l ys H1 j hp o hw=>?_⟩
 .have:qP U (.str t)=.no 9:=by show (match bf t with|none=>mi.no 9|some (a,R)=>kB U a R)=_;rw[hn]
  rw[this] at q;exact q H' j
 have e0:qP U (.str t)=kB U a R:=by show (match bf t with|none=>mi.no 9|some (a,R)=>kB U a R)=_;rw[hl]
 rw[e0] at q;clear e0;have c:=j _ _ hd;have L:=j _ _ hm;have a2:=hK.same j;have ab:=hK.len;have i0:∀(v:V) r,xB (v::r) 0=some v:=λv r=>M7 (j:=0) rfl;have i1:∀(v x:V) r,xB (v::x::r) 1=some x:=λv x r=>M7 (j:=1) rfl;unfold kB at q;refine⟨p,_,rfl,.of hp,rfl,_,_,rfl,_,_,rfl,rfl,_,rfl,rfl,_,rfl,?_⟩;by_cases ek:a="kept"
 .rw[ZB ek] at q;rw[Sb ek];refine aA ⟨rfl,_,rfl,d,C,X,_,_,rfl,c,D.cls,D.na,rfl,m,n,U.map (·.1),rfl,L,hK.keys,by rw[d8];lia,λDd ms B Y a3 k hD=>?_⟩;refine⟨_,Dd,ms,rfl,rfl,.of hD,?_,?_⟩
  .have hs:(ms.map λy=>y.length).sum<=8*ms.length:=dH λy hy=>by obtain⟨r,a4,rfl⟩:=ZY.mp (Y.mem_iff.mp hy);exact hN r a4
   have ac:ms.length=U.length:=by rw[Y.length_eq,d8]
   have:(" ":Str).length=1:=by decide
   rw[this];lia
  .rw[Cy a3];exact q B (j.trans k)
 rw[ZC ek] at q;rw[RA ek];refine Z8 ⟨_,rfl,rfl,_,rfl,?_⟩;cases M:CZ R with
 | none=>rw[M] at q;exact q.elim
 | some xr =>
 obtain⟨x,r⟩:=xr;obtain⟨O,ey,Z⟩:=Mi M hw;subst ey;rw[M] at q;dsimp only at q;by_cases eu:a="urn"
 .rw[ZB eu] at q;rw[Sb eu];cases N:Gr r with
  | none=>rw[N] at q;exact q.elim
  | some ns =>
   obtain⟨b,ey,S⟩:=Ow N Z;subst ey;rw[N] at q;dsimp only at q;cases I:aO 20 (DI ns) with
   | true =>
    rw[ZB I] at q;obtain⟨a5,n1,n4⟩:=kL I;refine aA ⟨_,rfl,d,X,_,rfl,c,rfl,_,rfl,l,_,0,_,rfl,rfl,.of o,i0 _ _,_,rfl,l,_,1,_,rfl,rfl,.of o,i1 _ _ _,?_⟩;exact⟨d,m,n,x,b,b+1,ns,rfl,⟨X,c,L⟩,by lia,Dt.mkI (y7 (T5 b)) S,n4,λ_ B k=>q b B (j.trans k) (k _ _ S),λz=>by rw[I] at z;cases z⟩
   | false =>
    rw[ZC (by rw[I];decide)] at q;exact q.elim
 rw[ZC eu] at q;rw[RA eu];refine Z8 ⟨_,rfl,d,X,_,rfl,c,rfl,_,rfl,l,_,0,_,rfl,rfl,.of o,i0 _ _,d,m,n,x,rfl,⟨X,c,L⟩,λu I=>?_,λhn B k=>?_⟩
 rotate_left
 .rcases hK.val (x:=x) with ⟨z1,_⟩|⟨ns,b,_,z2,_⟩
  .rw[z1] at q;exact q B (j.trans k)
  .rw[z2] at hn;cases hn
 obtain⟨_,z2⟩|⟨ns,b,z1,z2,S,a0⟩:=a2.val (x:=x)
 .rw[z2] at I;cases I
 rw[z2] at I;cases I;rw[z1] at q;dsimp only at q;obtain⟨a5,n1,n4⟩:=kL a0;have a6:b≠d:=λz=>by rw[z,c] at S;cases S
 have a7:Dt d H1 (DI ns) (.ref b):=Dt.mkI a6 S;refine⟨_,rfl,rfl,_,rfl,?_⟩;by_cases ed:a="draw"
 .rw[ZB ed] at q;exact q.elim
 rw[ZC ed] at q;rw[RA ed];refine Z8 ⟨_,rfl,_,rfl,_,rfl,1,rfl,l,_,rfl,.of o,λpr J=>?_⟩;refine⟨d,b,pr,ns,a,_,r,rfl,j3,?_,(a7.kp ((u7.new J).kp d)),a0,?_⟩
 .have:vO d H1 r O:=Z;have e:qW (V.str x::O) (some 1) none=O:=by have:=zq (xs:=V.str x::O) (y:=1) (by simp);exact this
  rw[e];exact this.same (u7.new J)
 .cases T:uO ns a r with
  | no i=>rw[T] at q;exact λB k=>q B (j.trans ((u7.new J).trans k))
  | tx t=>rw[T] at q;exact λB k=>q B (j.trans ((u7.new J).trans k))
  | put x ad =>
   exfalso;unfold uO at T
   repeat' split at T
   all_goals cases T
  | any=>rw[T] at q;exact q
end
def Cz:Sp:=λc H Q _=>∃(st:Addr) (v:V) (a:List (List Int)) (n:Nat),c=[v]/\Dt st H (DR a) v/\Mt.jx n 5 a/\1<=n/\n<=4/\∀b,u7 H b->Q (.str (rT a)) b
section
variable {P:j0}{w:w5}{K:m9}{mg:Str->Option b9}{base:Heap}{f:Addr}{fd:C5}
abbrev Hw:Stmt:=top 75
def OX:C6 ["_law_urn_here"] ["_law_urn_here"] (A0 Hw):=aS
def Qe (F:aU K "_law_urn_text" "_law_urn_text" Hw f fd) (z:KD mg):K6 P w K mg base ee 1 f fd ["_law_urn_here"] rZ:=by
 refine F.ok OX (λB H Q E h=>?_) (λC A l s H B Q E I h=>?_)
 .obtain⟨a,ns,rfl,_⟩:=h;rfl
 obtain⟨a,ns,rfl,r,J,t,q⟩:=h;refine⟨_,(u6 (C8 (cz E6 Q5 Q4 iG n9 (b8 (Q2 (N:=["_law_many"]) (ix:=[none]) (ifs:=[]) (tc:=ag) rfl (mP (pv 0))
   (λs H j=>dq (i:=0) (by decide) rfl (B6 rfl) (.inr rfl)) (λs H j=>P5) (λs H j=>(G9 R0 rfl z.str dc (b8 (pv 0) i3))) rfl (by decide) (by rfl) (by rfl) (λ_=>rfl)) i3)))),?_⟩
 refine⟨rfl,_,rfl,a,rfl,⟨_,.of r⟩,?_⟩;refine jV (K:=K) (a:=a) (xs:=ns.map V.int) (sz (by rw[d8];lia)) (λi b d=>u7 H d/\b=((ns.take i).map tx).map V.str/\b.length=i)
  ⟨u7.refl _,rfl,rfl⟩ (λi b d h=>h.2.2) (λi b d _ h=>.of (h.1 _ _ r)) rfl (λi b d v u h=>?_) (λb d h=>?_)
 .obtain⟨m,c,g⟩:=h;rw[w6] at u;obtain⟨x,k,j⟩:=Zt.mp u;subst j;have n:=t x (r0 k);refine⟨_,rfl,x,rfl,Je n.1 (by lia),m,?_,by rw[y9,g];rfl⟩;rw[c,D8,k,v9,v9];rfl
 .obtain⟨m,c,g⟩:=h;rw[d8,C0 (i4 _)] at c;subst c;intro p D;have o:=dH (m:=2) (ys:=ns.map tx) λy c=>by obtain⟨x,k,e⟩:=ZY.mp c;have:=t x k;rw[<- e];exact(nY this.1 (by lia)).2.2
  rw[d8] at o;refine⟨_,p,ns.map tx,rfl,rfl,.of j3,?_,q _ (m.trans (u7.new D))⟩;rw[d8,vA];lia
abbrev Hy:Stmt:=top 76
def OY:C6 ["_law_rule_here"] ["_law_rule_here"] (A0 Hy):=aS
def Qf (F:aU K "_law_rule_text" "_law_rule_text" Hy f fd) (c1:Y1 P w K mg base 1 "_law_urn_text" ["_law_urn_here"] rZ):K6 P w K mg base ee 2 f fd ["_law_rule_here"] Cz:=by
 refine F.ok OY (λS H Q E h=>?_) (λT A C s H S Q E U h=>?_)
 .obtain⟨st,v,u,n,rfl,_⟩:=h;rfl
 obtain⟨st,v,u,n,rfl,X,D,n1,n4,q⟩:=h;refine⟨_,(u6 (C8 (cz E6 Q5 Q4 iG n9 (b8 (Q2 (N:=["_law_line"]) (ix:=[none]) (ifs:=[]) (tc:=ag) rfl (mP (pv 0))
   (λs H O=>dq (i:=0) (by decide) rfl (B6 rfl) (.inr rfl)) (λs H O=>P5) (λs H O=>(D9 c1 U rfl (b8 (pv 0) i3))) rfl (by decide) (by rfl) (by rfl) (λ_=>rfl)) i3)))),?_⟩
 have Y:=D.len;obtain⟨R,I,J,_,j,k⟩:=X.untup;subst J;have l:=k.len;rw[d8,Y] at l;refine⟨rfl,_,rfl,R,rfl,⟨_,.of j⟩,?_⟩;refine jV (K:=K) (a:=R) (xs:=I) (sz (by lia)) (λi c m=>u7 H m/\c=((u.take i).map nT).map V.str/\c.length=i)
  ⟨u7.refl _,rfl,rfl⟩ (λi c m h=>h.2.2) (λi c m _ h=>.of (h.1 _ _ j)) rfl (λi c m v Z h=>?_) (λc m h=>?_)
 .obtain⟨B,g,o⟩:=h;obtain⟨d,r,dt⟩:=k.get Z;rw[w6] at r;obtain⟨t,b,ed⟩:=Zt.mp r;subst ed;obtain⟨bb,eb,_,L⟩:=dt.di;subst eb;have a:=D.row t (r0 b);refine⟨_,rfl,bb,t,rfl,B _ _ L,by rw[a.len];lia,λx M=>?_,λH3 g3=>⟨B.trans g3,?_,by rw[y9,o];rfl⟩⟩
  .have:=a.nn x M;lia
  .rw[g,D8,b,v9,v9];rfl
 .obtain⟨B,g,o⟩:=h;rw[<- l,C0 (by lia)] at g;subst g;intro p hp;have N:=dH (m:=12) (ys:=u.map nT) λy g=>by obtain⟨x,M,e⟩:=ZY.mp g;have a:=D.row x M;rw[<- e];exact BL (by rw[a.len];lia) λz hz=>by have:=a.nn z hz;lia
  rw[d8] at N;refine⟨_,p,u.map nT,rfl,rfl,.of j3,?_,q _ (B.trans (u7.new hp))⟩;rw[d8,lO];lia
abbrev HB:Stmt:=top 77
def OZ:C6 ["_law_part"] ["_law_part"] (A0 HB):=aS
def Qh (F:aU K "_law_fraction_text" "_law_fraction_text" HB f fd) (d:KD mg):K6 P w K mg base ee 1 f fd ["_law_part"] pA:=by
 refine F.ok OZ (λo H Q E h=>?_) (λp A g s H o Q E v h=>?_)
 .obtain⟨a,t,b,rfl,_⟩:=h;rfl
 obtain⟨a,t,b,rfl,c,i,j,l,m,q⟩:=h;refine⟨_,(m8 (R3 (J1 eg (R5 bW (pv 0) A7 (λ_ _=>rfl)) A7 (N2 _)) (u6 (C8 (G9 R0 rfl d.str dc (b8 (R5 bW (pv 0) A7 (λ_ _=>rfl)) i3)))) G0)
  (u6 (C8 (y8 i8 (y8 i8 (G9 R0 rfl d.str dc (b8 (R5 bW (pv 0) A7 (λ_ _=>rfl)) i3)) n9) (G9 R0 rfl d.str dc (b8 (R5 bW (pv 0) A7 (λ_ _=>rfl)) i3)))))),?_⟩
 have r:=pe i j;have u:=pe l m;refine⟨_,rfl,a,_,_,_,rfl,rfl,.of c,M7 (j:=1) rfl,rfl,_,rfl,?_⟩;by_cases e:b=1
 .have k:fT t b=tx t:=ZB e;rw[ZA (Zu V.int e)];refine aA ⟨_,rfl,a,_,_,_,rfl,rfl,.of c,M7 (j:=0) rfl,t,rfl,mw i j,?_⟩;have:=q _ (u7.refl H);rw[k] at this;exact this
 .have k:fT t b=tx t++("/"++tx b):=ZC e;rw[Zz (λz=>e (V.int.inj z))];have big:=(show 2000<=j6 by decide)
  have n:=lO;refine Z8 ⟨_,rfl,a,_,_,_,rfl,rfl,.of c,M7 (j:=0) rfl,t,rfl,mw i j,_,_,rfl,rfl,?_,_,rfl,a,_,_,_,rfl,rfl,.of c,M7 (j:=1) rfl,b,rfl,mw l m,_,_,rfl,rfl,?_,?_⟩
  .change (tx t).length+_<=_
   rw[n];lia
  .change (tx t++"/").length+(tx b).length<=_
   rw[A9,n];lia
  have:=q _ (u7.refl H);rw[k,<- V3] at this;exact this
end
end G
namespace G
open L2
end G
namespace G
open PySem PySem.Spec PyProof.Rows L2 Mt
def Qw:∀a:List Str,(C1 "" a).cps.toList=(a.map λy=>y.cps.toList).flatten:=λa=>by
 rw[G5];induction a with
 | nil=>rfl
 | cons x r b =>
  cases r with
  | nil=>rw[aE];simp
  | cons y r =>
   rw[E3];show ((x.cps++("":Str).cps)++(bR "" (y::r)).cps).toList=_;rw[D3,D3,b];have:("":Str).cps.toList=[]:=by decide
   rw[this,P4];rfl
def ES (cs:List Nat):(C1 "" (cs.map iW)).cps.toList=cs:=by
 rw[Qw];induction cs with
 | nil=>rfl
 | cons c cs a=>rw[t8,t8,List.flatten_cons,a];rfl
def Bw {cs:List Nat} (a:1<=cs.length) (b:cs.length<=8) (h:∀c∈cs,97<=c/\c<=122):N8 (C1 "" (cs.map iW))=true:=by
 have e:=ES cs;have d:(C1 "" (cs.map iW)).length=cs.length:=by show (C1 "" (cs.map iW)).cps.size=_;rw[<- u9,e]
 unfold N8;rw[d,e,ZA a,ZA b,T8,T8,kF];intro c f;have:=h c f;unfold letP;rw[ZA this.1,ZA this.2];rfl
def Mo {k:Nat} (h:k<26):xB ("abcdefghijklmnopqrstuvwxyz":Str).cps.toList (k:Int)=some (97+k):=by
 have:∀k:Fin 26,xB ("abcdefghijklmnopqrstuvwxyz":Str).cps.toList (k.1:Int)=some (97+k.1):=by decide
 exact this ⟨k,h⟩
variable {x:Str}
def cY (h:N8 x=true):1<=x.length/\x.length<=8/\∀c∈x.cps.toList,97<=c/\c<=122:=by unfold N8 at h;rw[A4,A4] at h;refine⟨Zx h.1.1,Zx h.1.2,λc a=>?_⟩;have:=kF.mp h.2 c a;unfold letP at this;rw[A4] at this;exact⟨Zx this.1,Zx this.2⟩
theorem tE:∀a:List Str,(∀s∈a,zY s=true)->aB (a.map T6)=true/\gz (a.map T6)<=1
 | [],_=>⟨by show aB []=true;unfold aB;rfl,by show gz []<=1;unfold gz;lia⟩
 | x::a,b=>by
  have c:=tE a λs d=>b s (g0 _ d);refine⟨?_,?_⟩
  .show aB (T6 x::a.map T6)=true;unfold aB;rw[c.1];show (cy (.str x)&&true)=true;unfold cy;rw[b x f7];rfl
  .show gz (T6 x::a.map T6)<=1;unfold gz;have:qf (.str x)<=1:=by unfold qf;lia
   have:=c.2;lia
def qm (ss:List Str) (a:∀s∈ss,zY s=true):ie (.list (ss.map T6))=true:=by
 unfold ie;rw[A4];refine⟨?_,ZA ?_⟩
 .show cy (.list (ss.map T6))=true;unfold cy;exact(tE ss a).1
 .have:=(tE ss a).2;show qf (.list (ss.map T6))<=64;unfold qf;lia
theorem tU {st:Addr}{H:Hp}:∀a:List Str,Z5 st H (a.map T6) (a.map V.str)
 | []=>Z5.nil _ _
 | x::a=>Z5.cons (by unfold Dt;rfl) (tU a)
def Qp {H:Hp}{p r:Addr}{ss:List Str}{Q:VK} (a:∀s∈ss,zY s=true) (b:H p=some (.lst (ss.map V.str))) (c:H r=some (.lst [])) (q:Q (.bl (!decide (ss=[]))) H):SI (.ref p) (.ref r) H Q:=by
 have d:p≠p+r+1:=y7 (Np (kJ p r));have f:r≠p+r+1:=y7 (Np (Ro r p));refine⟨p+r+1,.list (ss.map T6),.list (([]:List Str).map T6),?_,?_,qm ss a,qm [] (λs g=>by cases g),?_⟩
 .unfold Dt;exact⟨p,_,rfl,d,b,tU ss⟩
 .unfold Dt;exact⟨r,_,rfl,f,c,tU []⟩
 .have e:FJ (.list (ss.map T6)) (.list (([]:List Str).map T6))=decide (ss=[]):=by
   cases ss with
   | nil=>unfold FJ;show nR [] []=_;unfold nR;rfl
   | cons x ss=>unfold FJ;show nR (T6 x::ss.map T6) []=_;unfold nR;rfl
  rw[e];exact q
section
variable {P:j0}{w:w5}{K:m9}{mg:Str->Option b9}{base:Heap}{f:Addr}{fd:C5}
def AH:Sp:=λc H Q _=>∃(l:Addr) (x:Int) (b:Bool),c=[.ref l]/\H l=some (.lst [.int x,.bl b])/\ni x b /\
 ∀y a,N8 y=true->cW l b H a->Q (.str y) a
abbrev HA:Stmt:=top 78
def GR:C6 ["_law_state_here","_law_letters"] ["_law_state_here"] (A0 HA):=aS
def Qg (F:aU K "_law_name" "_law_name" HA f fd) (B:Bt mg) (c1:Y1 P w K mg base 1 "_law_take" ["_law_state_here","_law_many"] gr):K6 P w K mg base ee 2 f fd ["_law_state_here"] AH:=by
 refine F.ok GR (λL H Q E h=>?_) (λM A j s H L Q E C h=>?_)
 .obtain⟨l,x,b,rfl,_⟩:=h;rfl
 obtain⟨l,x,b,rfl,D,ok,q⟩:=h;refine⟨_,(m8 (F7 (i:=1) GR.nd rfl (iu rfl) n9)
  (u6 (C8 (cz E6 Q5 Q4 iG n9 (b8 (Q2 (N:=["_law_turn","_law_letters","_law_state_here"]) (ix:=[none,some 1,some 0]) (ifs:=[]) (tc:=ag) rfl (Y6 rfl B.range (b8 (y8 dI A7 (D9 c1 C rfl (b8 (pv 0) (b8 A7 i3)))) i3))
   (λs H I=>dq (i:=0) (by decide) rfl (B6 rfl) (.inr rfl)) (λs H I=>P5) (λs H I=>(R5 Jv (pv 1) (D9 c1 C rfl (b8 (pv 2) (b8 A7 i3))) (λ_ _=>rfl))) rfl (by decide) (by rfl) (by rfl) (λ_=>rfl)) i3))))),?_⟩
 have N:cW l b H H:=cW.start D ok;refine⟨rfl,_,rfl,l,8,x,b,rfl,D,ok,by decide,by decide,λm O U k=>⟨_,_,rfl,rfl,?_⟩⟩;have em:(1:Int)+(m:Int)=((1+m:Nat):Int):=by lia
 refine⟨((1+m:Nat):Int),by rw[<- em],by lia,by lia,?_⟩;have J:=N.go k;try dsimp -proj only
 generalize C3 H l (.lst [.int O,.bl b])=X at J;refine cZ (lo:=0) (n:=1+m) (sz (by lia)) (λi a d=>cW l b H d/\∃cs:List Nat,a=(cs.map iW).map V.str/\cs.length=i/\∀c∈cs,97<=c/\c<=122)
  ⟨J,[],rfl,rfl,by simp⟩ (λi a d h=>?_) rfl (λi a d Y h=>?_) (λa d h=>?_)
 .obtain⟨_,cs,rfl,e,_⟩:=h;rw[d8,d8];exact e
 .obtain⟨g,cs,rfl,e,n⟩:=h;obtain⟨_,R,o,p⟩:=id g;refine⟨_,rfl,_,rfl,l,26,R,b,rfl,o,p,by decide,by decide,λz Z hz r=>⟨_,_,_,rfl,rfl,by decide,Mo (k:=z) (by lia),g.go r,cs++[97+z],?_,by rw[y9,e];rfl,λc t=>?_⟩⟩
  .rw[v9,v9];rfl
  .rcases ZX.mp t with h|h
   .exact n c h
   .rw[ZZ.mp h];lia
 obtain⟨g,cs,rfl,e,n⟩:=h;intro S u;refine⟨_,S,cs.map iW,rfl,rfl,.of j3,?_,q _ _ (Bw (by lia) (by lia) n) (g.same (u7.new u))⟩;have v:=dH (m:=1) (ys:=cs.map iW) λy T=>by obtain⟨c,_,rfl⟩:=ZY.mp T;exact i4 _
 rw[d8] at v ⊢;have:("":Str).length=0:=by decide
 rw[this];lia
end
variable {rs:List (List Int)}{n:Nat}
def LG (f:Mt.jx n 5 rs) (s:1<=n):(C9 (rT rs) "/" 0 (rT rs).length ((rT rs).length+1)).length+1=n:=by
 have h:=f.len;have g:rs≠[]:=λe=>by rw[e] at h;simp at h;lia
 have k:∀r∈rs,∀x∈r,0<=x/\x<=20:=λr a x b=>by have:=(f.row r a).nn x b;lia
 have c:=yq g k;have b:1<=(rT rs).length:=by
  refine dU λz=>?_;have e:rT rs=aj:=lK (by
   have:(rT rs).cps.toList.length=0:=by rw[u9];exact z
   rw[List.length_eq_zero_iff.mp this];rfl)
  rw[e] at c;have e2:B1 aj "/"=[aj]:=by decide
  rw[e2] at c;match rs,g,c,h,f with
  | r::l,_,c,h,f =>
   rw[t8] at c;have m:nT r=aj:=(fh c).1.symm;have a:=f.row r f7;have d:=rV (ns:=r) (λz=>by have:=a.len;rw[z] at this;simp at this;lia) (λx b=>by have:=a.nn x b;lia);rw[m] at d;have e3:B1 aj ","=[aj]:=by decide
   rw[e3] at d;match r,d,a with
   | x::t,d,a =>
    rw[t8] at d;have o:tx x=aj:=(fh d).1.symm;have b:=a.nn x f7;obtain⟨i,rfl⟩:=O8 b.1;have p:∀j:Fin 6,tx (j.1:Int)≠aj:=by decide
    exact p ⟨i,by lia⟩ o
 have q:=zv (x:=rT rs) (y:="/") (by rw[lO];exact b) (j9 (show X2 "/"<=1 by decide) (Jt _));rw[c,d8] at q;lia
variable {ns:List Int}
def jP (h:∀x∈ns,0<=x/\x<=20):32 ∉ (nT ns).cps.toList:=λz=>by
 unfold nT at z;rw[G5,jv,gv] at z;obtain e|⟨p,a,b⟩:=sV z
 .exact Zy e (by decide)
 .obtain⟨y,c,rfl⟩:=ZY.mp a;obtain⟨i,d,rfl⟩:=ZY.mp c;obtain⟨f,g⟩:=h i d;obtain⟨k,rfl⟩:=O8 f;have l:∀j:Fin 21,(tx (j.1:Int)).cps.toList.contains 32=false:=by decide
  have:=l ⟨k,by lia⟩;rw[nD] at this;exact Zy b (by simpa using this)
def gS (h:∀r∈rs,∀x∈r,0<=x/\x<=20):32 ∉ (rT rs).cps.toList:=λz=>by
 unfold rT at z;rw[G5,ql,gv] at z;obtain e|⟨p,a,b⟩:=sV z
 .exact Zy e (by decide)
 .obtain⟨y,c,rfl⟩:=ZY.mp a;obtain⟨r,d,rfl⟩:=ZY.mp c;exact jP (h r d) b
def qr (a:Mt.jx n 5 rs):∀r∈rs,∀x∈r,0<=x/\x<=20:=λr b x c=>by have:=(a.row r b).nn x c;lia
def Pw {k:Nat} (a:k<21):qR 21 (tx (k:Int))=some k:=by
 have:∀k:Fin 21,qR 21 (tx (k.1:Int))=some k.1:=by decide
 exact this ⟨k,a⟩
def SG {k:Nat} (a:k<6):qR 6 (tx (k:Int))=some k:=by
 have:∀k:Fin 6,qR 6 (tx (k.1:Int))=some k.1:=by decide
 exact this ⟨k,a⟩
theorem Bf {n:Nat} (a:∀k,k<n->qR n (tx ((k:Nat):Int))=some k):∀{ns:List Int},(∀x∈ns,0<=x/\x<(n:Int))->oi n (ns.map tx)=some ns
 | [],_=>rfl
 | x::ns,h=>by obtain⟨b,e⟩:=h x f7;obtain⟨k,rfl⟩:=O8 b;have c:=Bf a (ns:=ns) λy d=>h y (g0 _ d);show (match qR n (tx (k:Int)),oi n (ns.map tx) with|some j,some ns=>some ((j:Int)::ns)|_,_=>none)=_;rw[a k (by lia),c]
def Ox (a:Mt.jW n 20 ns) (d:1<=n) (f:n<=4):Au (nT ns)=some ns:=by
 have b:ns≠[]:=λe=>by have:=a.len;rw[e] at this;simp at this;lia
 unfold Au;rw[rV b λx c=>a.nn x c,Bf (n:=21) (λk h=>Pw h) λx c=>by have:=a.nn x c;lia];show (if aO 20 (DI ns)=true then some ns else none)=some ns;rw[ZB (nW a d f)]
theorem HN {n:Nat}:∀{rs:List (List Int)},(∀r∈rs,Mt.NY n 5 r)->1<=n->Ad (rs.map nT)=some rs
 | [],_,_=>rfl
 | r::rs,h,d=>by
  have a:=h r f7;have b:r≠[]:=λe=>by have:=a.len;rw[e] at this;simp at this;lia
  have f:=HN (rs:=rs) (λy g=>h y (g0 _ g)) d;show (match oi 6 (B1 (nT r) ","),Ad (rs.map nT) with|some ns,some rs=>some (ns::rs)|_,_=>none)=_;rw[rV b (λx c=>by have:=a.nn x c;lia),Bf (n:=6) (λk h=>SG h) (λx c=>by have:=a.nn x c;lia),f]
def QS (a:Mt.jx n 5 rs) (c:1<=n) (g:n<=4):xS (rT rs)=some rs:=by
 have d:=a.len;have b:rs≠[]:=λe=>by rw[e] at d;simp at d;lia
 unfold xS;rw[LG a c,ZC (by lia)];unfold Kx;rw[yq b (qr a),HN (λr f=>a.row r f) c];show (if aD (n:Int) (DR rs)=true then some rs else none)=some rs;rw[ZB (sx a)]
def QI {k:Nat} (a:k<=9):NT (tx (k:Int))=some k:=by
 have:∀k:Fin 10,NT (tx (k.1:Int))=some k.1:=by decide
 exact this ⟨k,by lia⟩
def tY:(" ":Str)=⟨#[32]⟩:=by decide
variable {ws fos:List Str}
def pN {a:Str}{ds:List Wd} (b:32 ∉ a.cps.toList) (c:∀y∈ws,32 ∉ y.cps.toList) (d:fA a=some fos) (f:fos.length=ws.length) (hd:O3 fos ws=some ds):bf (C1 " " (a::ws))=some (a,ds):=by unfold bf;rw[G5,tY,jH (by simp) (λy g=>(C7.mp g).elim (λe=>by rw[e];exact b) (c y))];show (match fA a with|none=>none|some fos=>if fos.length=ws.length then (O3 fos ws).map λds=>(a,ds) else none)=_;rw[d];show (if fos.length=ws.length then (O3 fos ws).map λds=>(a,ds) else none)=_;rw[ZB f,hd];rfl
def dJ (h:N8 x=true):32 ∉ x.cps.toList:=λz=>by have:=(cY h).2.2 32 z;lia
def Gs {k:Nat} (b:k<=9):32 ∉ (tx (k:Int)).cps.toList:=λz=>by
 have a:∀j:Fin 10,(tx (j.1:Int)).cps.toList.contains 32=false:=by decide
 have:=a ⟨k,by lia⟩;rw[nD] at this;exact Zy z (by simpa using this)
def mH (h:N8 x=true):av "name" x=some (.name x):=by unfold av;rw[ZB rfl,ZB h]
def Se (a:Mt.jW n 20 ns) (b:1<=n) (c:n<=4):av "urn" (nT ns)=some (.urn ns):=by unfold av;rw[ZC (by decide),ZB rfl,Ox a b c];rfl
def Aq (a:Mt.jx n 5 rs) (b:1<=n) (c:n<=4):av "rule" (rT rs)=some (.rule rs):=by unfold av;rw[ZC (by decide),ZC (by decide),ZB rfl,QS a b c];rfl
def Gp {k:Nat} (a:k<=9):av "figure" (tx (k:Int))=some (.fig k):=by unfold av;rw[ZC (by decide),ZC (by decide),ZC (by decide),QI a];rfl
def Da (a:N8 x=true) (b:Mt.jW n 20 ns) (d:1<=n) (f:n<=4):bf (C1 " " ["urn",x,nT ns])=some (("urn":Str),[Wd.name x,.urn ns]):=by
 refine pN (fos:=["name","urn"]) (by decide) (λy c=>?_) (by decide) rfl ?_
 .simp only[C7,B7,or_false] at c;obtain e|e:=c
  .rw[e];exact dJ a
  .rw[e];exact jP λz g=>b.nn z g
 .unfold O3 O3 O3;rw[mH a,Se b d f]
def Jk {y:Str}{k:Nat}(a:N8 x=true) (b:N8 y=true) (c:Mt.jx n 5 rs) (g:1<=n) (h:n<=4) (d:k<=9):bf (C1 " " ["draw",x,rT rs,tx (k:Int),y])=some (("draw":Str),[Wd.name x,.rule rs,.fig k,.name y]):=by
 refine pN (fos:=["name","rule","figure","name"]) (by decide) (λz f=>?_) (by decide) rfl ?_
 .simp only[C7,B7,or_false] at f;obtain e|e|e|e:=f
  .rw[e];exact dJ a
  .rw[e];exact gS (qr c)
  .rw[e];exact Gs d
  .rw[e];exact dJ b
 .unfold O3 O3 O3 O3 O3;rw[mH a,Aq c g h,Gp d,mH b]
def BK {k:Nat} (a:N8 x=true) (b:k<=9):bf (C1 " " ["chance",x,tx (k:Int)])=some (("chance":Str),[Wd.name x,.fig k]):=by
 refine pN (fos:=["name","figure"]) (by decide) (λz c=>?_) (by decide) rfl ?_
 .simp only[C7,B7,or_false] at c;obtain e|e:=c
  .rw[e];exact dJ a
  .rw[e];exact Gs b
 .unfold O3 O3 O3;rw[mH a,Gp b]
def BI {a:Str}{k:Nat}(b:a="stands" ∨ a="mean") (c:N8 x=true) (d:Mt.jx n 5 rs) (h:1<=n) (i:n<=4) (f:k<=9):bf (C1 " " [a,x,rT rs,tx (k:Int)])=some (a,[Wd.name x,.rule rs,.fig k]):=by
 refine pN (fos:=["name","rule","figure"]) (by rcases b with e|e <;> (rw[e];decide)) (λz g=>?_) (by rcases b with e|e <;> (rw[e];decide)) rfl ?_
 .simp only[C7,B7,or_false] at g;obtain e|e|e:=g
  .rw[e];exact dJ c
  .rw[e];exact gS (qr d)
  .rw[e];exact Gs f
 .unfold O3 O3 O3 O3;rw[mH c,Aq d h i,Gp f]
def Jj (a:N8 x=true) (b:Mt.jx n 5 rs) (d:1<=n) (f:n<=4):bf (C1 " " ["fair",x,rT rs])=some (("fair":Str),[Wd.name x,.rule rs]):=by
 refine pN (fos:=["name","rule"]) (by decide) (λz c=>?_) (by decide) rfl ?_
 .simp only[C7,B7,or_false] at c;obtain e|e:=c
  .rw[e];exact dJ a
  .rw[e];exact gS (qr b)
 .unfold O3 O3 O3;rw[mH a,Aq b d f]
def yY (a:N8 x=true):bf (C1 " " ["show",x])=some (("show":Str),[Wd.name x]):=by
 refine pN (fos:=["name"]) (by decide) (λz b=>?_) (by decide) rfl ?_
 .simp only[C7,B7,or_false] at b;rw[b];exact dJ a
 .unfold O3 O3;rw[mH a]
def Ji:bf "kept"=some (("kept":Str),[]):=by decide
def Df (a:Mt.jW n 20 ns) (c:n<=4):(nT ns).length<=12:=BL (by rw[a.len];lia) λz b=>a.nn z b
theorem lR (c:Str):∀(ys:List Str) (y z:Str),C1 c (ys++[y])++z=C1 c (ys++[y++z])
 | [],y,z=>by rw[lX,lX,G5,G5,aE,aE]
 | [x],y,z=>by
  show C1 c [x,y]++z=C1 c [x,y++z];rw[G5,G5,E3,E3,aE,aE];exact V3 _ _ _
 | x::a::ys,y,z=>by have b:=lR c (a::ys) y z;rw[G5,G5] at b ⊢;show bR c (x::a::(ys++[y]))++z=bR c (x::a::(ys++[y++z]));rw[E3,E3,V3];exact Zu _ b
def pR (c:Str) (ys:List Str) (d:ys≠[]) (z:Str):C1 c ys++(c++z)=C1 c (ys++[z]):=by
 induction ys with
 | nil=>exact Zy rfl d
 | cons x ys a =>
  cases ys with
  | nil =>
   show C1 c [x]++(c++z)=C1 c [x,z];rw[G5,G5,E3,aE,aE,V3]
  | cons b ys =>
   have a:=a (by simp);rw[G5,G5] at a ⊢;show bR c (x::b::ys)++(c++z)=bR c (x::b::(ys++[z]));rw[E3,E3,V3];exact Zu _ a
def mV (c z y:Str) (ys:List Str):z++C1 c (y::ys)=C1 c ((z++y)::ys):=by
 cases ys with
 | nil=>rw[G5,G5,aE,aE]
 | cons x ys=>rw[G5,G5,E3,E3];exact((V3 z _ _).symm.trans (Zu (·++_) (V3 z y c).symm))
def tL (c z:Str) (ys:List Str) (a:ys≠[]):(z++c)++C1 c ys=C1 c (z::ys):=by
 cases ys with
 | nil=>exact Zy rfl a
 | cons x ys=>rw[G5,G5,E3]
def TC (c:Str):c++""=c:=lK (by show (c.cps++("":Str).cps).toList=_;rw[D3,show ("":Str).cps.toList=[] by decide,P4])
def TF (c:Str):""++c=c:=lK (by show (("":Str).cps++c.cps).toList=_;rw[D3,show ("":Str).cps.toList=[] by decide,lX])
def tK (c:Str) (ys:List Str) (a:ys≠[]):C1 c ys++c=C1 c (ys++[("":Str)]):=by
 have:=pR c ys a ""
 rwa [TC] at this
def oA (c:Str) (ys:List Str) (a:ys≠[]):c++C1 c ys=C1 c (("":Str)::ys):=by
 have:=tL c "" ys a
 rwa [TF] at this
def aq {c:Nat}{ys:List Str} (a:ys≠[]) (b:∀y∈ys,c ∉ y.cps.toList):B1 (C1 ⟨#[c]⟩ ys) ⟨#[c]⟩=ys:=by rw[G5];exact jH a b
theorem kQ {n:Nat}:∀{ys:List Str},(∃y∈ys,qR n y=none)->oi n ys=none
 | [],⟨_,h,_⟩=>by cases h
 | x::ys,⟨y,h,e⟩=>by
  show (match qR n x,oi n ys with|some j,some ns=>some ((j:Int)::ns)|_,_=>none)=none;obtain z|z:=C7.mp h
  .rw[<- z,e]
  .rw[kQ ⟨y,z,e⟩];cases qR n x <;> rfl
theorem yH:∀{xs:List Str},(∃x∈xs,oi 6 (B1 x ",")=none)->Ad xs=none
 | [],⟨_,h,_⟩=>by cases h
 | x::xs,⟨y,h,e⟩=>by
  show (match oi 6 (B1 x ","),Ad xs with|some r,some rs=>some (r::rs)|_,_=>none)=none;obtain z|z:=C7.mp h
  .rw[<- z,e]
  .rw[yH ⟨y,z,e⟩];cases oi 6 (B1 x ",") <;> rfl
def nX(h:B1 t ","=ys) (a:∃y∈ys,qR 21 y=none):Au t=none:=by unfold Au;rw[h,kQ a]
def lu(h:B1 t "/"=xs) (a:∃x∈xs,oi 6 (B1 x ",")=none):xS t=none:=by
 unfold xS;split
 .rfl
 .unfold Kx;rw[h,yH a]
section
variable {n:Nat}{ns:List Int}{rs:List (List Int)}
def Cs (b:Mt.jW n 20 ns) (g:1<=n):ns≠[]/\(∀y∈ns.map tx,44 ∉ y.cps.toList)/\(∃y k,∃l:List Str,k<21/\ns.map tx=l++[y]/\y=tx ((k:Nat):Int))/\∃k,∃l:List Str,k<21/\ns.map tx=tx ((k:Nat):Int)::l:=by
 have a:ns≠[]:=λe=>by have:=b.len;rw[e] at this;simp at this;lia
 refine⟨a,λy d=>?_,?_,?_⟩
 .obtain⟨x,f,rfl⟩:=ZY.mp d;have:=b.nn x f;exact(nY this.1 (by lia)).1
 .obtain⟨k,c⟩:=O8 (b.nn _ (fP a)).1;have:=(b.nn _ (fP a)).2;refine⟨tx (ns.getLast a),k,ns.dropLast.map tx,by lia,?_,by rw[c]⟩;rw[<- qg (f:=tx),<- v9,hJ]
 .match ns,a with
  | x::r,_ =>
   obtain⟨k,c⟩:=O8 (b.nn x f7).1;have:=(b.nn x f7).2;exact⟨k,r.map tx,by lia,by rw[t8,c]⟩
def lM (d:Mt.jx n 5 rs) (o:1<=n):rs≠[]/\(∀y∈rs.map nT,47 ∉ y.cps.toList)/\∀r∈rs,r≠[]/\(∀y∈r.map tx,44 ∉ y.cps.toList/\47 ∉ y.cps.toList)/\(∃y k,∃l:List Str,k<6/\r.map tx=l++[y]/\y=tx ((k:Nat):Int))/\∃k,∃l:List Str,k<6/\r.map tx=tx ((k:Nat):Int)::l:=by
 have i:=d.len;refine⟨λe=>by rw[e] at i;simp at i;lia,λy c=>?_,λr f=>?_⟩
 .obtain⟨r,f,rfl⟩:=ZY.mp c;intro z;unfold nT at z;rw[G5,jv,gv] at z;obtain e|⟨p,j,m⟩:=sV z
  .exact Zy e (by decide)
  .obtain⟨y,c,rfl⟩:=ZY.mp j;obtain⟨x,g,rfl⟩:=ZY.mp c;have:=(d.row r f).nn x g;exact(nY this.1 (by lia)).2.1 m
 have b:=d.row r f;have a:r≠[]:=λe=>by have:=b.len;rw[e] at this;simp at this;lia
 refine⟨a,λy c=>?_,?_,?_⟩
 .obtain⟨x,g,rfl⟩:=ZY.mp c;have:=b.nn x g;exact⟨(nY this.1 (by lia)).1,(nY this.1 (by lia)).2.1⟩
 .obtain⟨k,h⟩:=O8 (b.nn _ (fP a)).1;have:=(b.nn _ (fP a)).2;refine⟨tx (r.getLast a),k,r.dropLast.map tx,by lia,?_,by rw[h]⟩;rw[<- qg (f:=tx),<- v9,hJ]
 .match r,a with
  | x::q,_ =>
   obtain⟨k,h⟩:=O8 (b.nn x f7).1;have:=(b.nn x f7).2;exact⟨k,q.map tx,by lia,by rw[t8,h]⟩
end
def bC {c:Nat}{y:Str} (a:c ∉ x.cps.toList) (b:c ∉ y.cps.toList):c ∉ (x++y).cps.toList:=λz=>by
 have:(x++y).cps.toList=x.cps.toList++y.cps.toList:=D3;rw[this] at z;obtain e|e:=ZX.mp z
 .exact a e
 .exact b e
section
variable {n:Nat}{ns:List Int}{rs:List (List Int)}
variable {z:Str}
def vf (d:Mt.jx n 5 rs) (f:1<=n) (hz:47 ∉ z.cps.toList):∃r∈rs,∃L:List Str,B1 (rT rs++z) "/"=L++[nT r++z]:=by
 obtain⟨b,c,_⟩:=lM d f;have e:rs.map nT=rs.dropLast.map nT++[nT (rs.getLast b)]:=by rw[<- qg (f:=nT),<- v9,hJ]
 refine⟨rs.getLast b,fP b,rs.dropLast.map nT,?_⟩;unfold rT;rw[e,lR,ql,aq (by simp)];intro y g;obtain a|a:=ZX.mp g
 .exact c y (by rw[e];exact E9 _ a)
 .rw[ZZ.mp a];exact bC (c _ (by rw[e];exact i9 _ (ZZ.mpr rfl))) hz
def Et (d:Mt.jx n 5 rs) (e:1<=n) (hz:47 ∉ z.cps.toList):∃r∈rs,∃L:List Str,B1 (z++rT rs) "/"=(z++nT r)::L:=by
 obtain⟨c,b,_⟩:=lM d e;match rs,c,b with
 | r::q,_,b =>
  refine⟨r,f7,q.map nT,?_⟩;unfold rT;rw[t8,mV,ql,aq (by simp)];intro y f;obtain a|a:=C7.mp f
  .rw[a];exact bC hz (b _ f7)
  .exact b y (g0 _ a)
def Gw:∀k:Fin 6,qR 6 (tx (k.1:Int)++"0")=none/\qR 6 (tx (k.1:Int)++"x")=none/\qR 6 ("+"++tx (k.1:Int))=none:=by decide
def Gx:∀k:Fin 21,qR 21 (tx (k.1:Int)++"x")=none/\qR 21 ("0"++tx (k.1:Int))=none:=by decide
def jQ (t:Str):List Str:=["6","1,","1;0","01","x","","1,0","1/0",t++"/","/"++t,t++",",t++"0","+"++t,"1/1/1/1/1",t++"x"]
def Fv:(44 ∉ ("0":Str).cps.toList/\47 ∉ ("0":Str).cps.toList)/\(44 ∉ ("x":Str).cps.toList/\47 ∉ ("x":Str).cps.toList)/\(44 ∉ ("+":Str).cps.toList/\47 ∉ ("+":Str).cps.toList)/\47 ∉ (",":Str).cps.toList/\44 ∉ ("":Str).cps.toList/\47 ∉ ("":Str).cps.toList:=by decide
def NI (f:Mt.jx n 5 rs) (g:1<=n) (b:44 ∉ z.cps.toList) (c:47 ∉ z.cps.toList) (hz:∀k:Fin 6,qR 6 (tx (k.1:Int)++z)=none):xS (rT rs++z)=none:=by
 obtain⟨r,i,L,e⟩:=vf f g c;obtain⟨_,h,⟨y,k,l,j,d,m⟩,_⟩:=(lM f g).2.2 r i;refine lu e ⟨_,i9 _ (ZZ.mpr rfl),kQ ?_⟩;unfold nT;rw[d,lR,jv,aq (by simp)]
 .exact⟨y++z,i9 _ (ZZ.mpr rfl),by rw[m];exact hz ⟨k,j⟩⟩
 .intro w o;obtain a|a:=ZX.mp o
  .exact(h w (by rw[d];exact E9 _ a)).1
  .rw[ZZ.mp a];exact bC (h _ (by rw[d];exact i9 _ (ZZ.mpr rfl))).1 b
def HL (c:Mt.jx n 5 rs) (d:1<=n):xS ("+"++rT rs)=none:=by
 obtain⟨r,g,L,e⟩:=Et c d Fv.2.2.1.2;obtain⟨_,f,_,k,l,h,b⟩:=(lM c d).2.2 r g;refine lu e ⟨_,f7,kQ ?_⟩;unfold nT;rw[b,mV,jv,aq (by simp)]
 .exact⟨_,f7,(Gw ⟨k,h⟩).2.2⟩
 .intro w i;obtain a|a:=C7.mp i
  .rw[a];exact bC Fv.2.2.1.1 (f _ (by rw[b];exact f7)).1
  .exact(f w (by rw[b];exact g0 _ a)).1
def Eu (c:Mt.jx n 5 rs) (d:1<=n):xS (rT rs++",")=none:=by
 obtain⟨r,f,L,e⟩:=vf c d Fv.2.2.2.1;obtain⟨b,g,_,_⟩:=(lM c d).2.2 r f;refine lu e ⟨_,i9 _ (ZZ.mpr rfl),kQ ?_⟩;unfold nT;rw[tK _ _ (by simpa using b),jv,aq (by simp)]
 .exact⟨"",i9 _ (ZZ.mpr rfl),by decide⟩
 .intro w h;obtain a|a:=ZX.mp h
  .exact(g w a).1
  .rw[ZZ.mp a];exact Fv.2.2.2.2.1
def HK (e:Mt.jx n 5 rs) (f:1<=n):xS (rT rs++"/")=none/\xS ("/"++rT rs)=none:=by
 obtain⟨b,c,_⟩:=lM e f;have e0:oi 6 (B1 "" ",")=none:=by decide
 constructor
 .refine lu (xs:=rs.map nT++[("":Str)]) ?_ ⟨"",i9 _ (ZZ.mpr rfl),e0⟩;unfold rT;rw[tK _ _ (by simpa using b),ql,aq (by simp)];intro w d;obtain a|a:=ZX.mp d
  .exact c w a
  .rw[ZZ.mp a];exact Fv.2.2.2.2.2
 .refine lu (xs:=("":Str)::rs.map nT) ?_ ⟨"",f7,e0⟩;unfold rT;rw[oA _ _ (by simpa using b),ql,aq (by simp)];intro w d;obtain a|a:=C7.mp d
  .rw[a];exact Fv.2.2.2.2.2
  .exact c w a
def Ng (p:Str->Prop) (m:Nat) (x:Str):Prop:=p x/\32 ∉ x.cps.toList/\x.length<=m
def qU:("/":Str).length=1/\(",":Str).length=1/\("0":Str).length=1/\("x":Str).length=1/\("+":Str).length=1/\(",21":Str).length=3/\(",-1":Str).length=3:=by decide
def qT:32 ∉ ("/":Str).cps.toList/\32 ∉ (",":Str).cps.toList/\32 ∉ ("0":Str).cps.toList/\32 ∉ ("x":Str).cps.toList/\32 ∉ ("+":Str).cps.toList/\32 ∉ (",21":Str).cps.toList/\32 ∉ (",-1":Str).cps.toList:=by decide
def yT (a:Mt.jx n 5 rs) (b:1<=n) (h:n<=4):∀z∈jQ (rT rs),Ng (λx=>xS x=none) 53 z:=λz d=>by
 have c:=gS (qr a);have i:(rT rs).length<=52:=Jm (by rw[a.len];lia) λr f=>⟨by rw[(a.row r f).len];lia,qr a r f⟩
 have g:∀z∈(["6","1,","1;0","01","x","","1,0","1/0","1/1/1/1/1"]:List Str),xS z=none/\32 ∉ z.cps.toList/\z.length<=53:=by decide
 unfold jQ at d;simp only[C7,B7,or_false] at d;obtain e|e|e|e|e|e|e|e|e|e|e|e|e|e|e:=d
 iterate 8 (rw[e];exact g _ (by simp))
 .rw[e];exact⟨(HK a b).1,bC c qT.1,by rw[A9,qU.1];lia⟩
 .rw[e];exact⟨(HK a b).2,bC qT.1 c,by rw[A9,qU.1];lia⟩
 .rw[e];exact⟨Eu a b,bC c qT.2.1,by rw[A9,qU.2.1];lia⟩
 .rw[e];exact⟨NI a b Fv.1.1 Fv.1.2 λk=>(Gw k).1,bC c qT.2.2.1,by rw[A9,qU.2.2.1];lia⟩
 .rw[e];exact⟨HL a b,bC qT.2.2.2.2.1 c,by rw[A9,qU.2.2.2.2.1];lia⟩
 .rw[e];exact g _ (by simp)
 .rw[e];exact⟨NI a b Fv.2.1.1 Fv.2.1.2 λk=>(Gw k).2.1,bC c qT.2.2.2.1,by rw[A9,qU.2.2.2.1];lia⟩
def mS (t:Str):List Str:=["21","01","1,",",1","0,0","0","1,1,1,1,1","-1","+1","1;1","x","","1.0","100",t++",",","++t,t++",21",t++"x","0"++t,t++",-1"]
def Ar {w:Str} (d:Mt.jW n 20 ns) (f:1<=n) (e:z=","++w) (b:44 ∉ w.cps.toList) (g:qR 21 w=none):Au (nT ns++z)=none:=by
 obtain⟨c,h,_⟩:=Cs d f;refine nX (ys:=ns.map tx++[w]) ?_ ⟨w,i9 _ (ZZ.mpr rfl),g⟩;unfold nT;rw[e,pR _ _ (by simpa using c),jv,aq (by simp)];intro y i;obtain a|a:=ZX.mp i
 .exact h y a
 .rw[ZZ.mp a];exact b
def vZ (h:Mt.jW n 20 ns) (i:1<=n):Au (","++nT ns)=none/\Au (nT ns++"x")=none/\Au ("0"++nT ns)=none:=by
 obtain⟨e,c,⟨y,k,l,j,f,m⟩,k2,l2,g,b⟩:=Cs h i;refine⟨nX (ys:=("":Str)::ns.map tx) ?_ ⟨"",f7,by decide⟩,nX (ys:=l++[y++"x"]) ?_ ⟨_,i9 _ (ZZ.mpr rfl),by rw[m];exact(Gx ⟨k,j⟩).1⟩,nX (ys:=("0"++tx ((k2:Nat):Int))::l2) ?_ ⟨_,f7,(Gx ⟨k2,g⟩).2⟩⟩
 .unfold nT;rw[oA _ _ (by simpa using e),jv,aq (by simp)];intro w d;obtain a|a:=C7.mp d
  .rw[a];exact Fv.2.2.2.2.1
  .exact c w a
 .unfold nT;rw[f,lR,jv,aq (by simp)];intro w d;obtain a|a:=ZX.mp d
  .exact c w (by rw[f];exact E9 _ a)
  .rw[ZZ.mp a];exact bC (c _ (by rw[f];exact i9 _ (ZZ.mpr rfl))) Fv.2.1.1
 .unfold nT;rw[b,mV,jv,aq (by simp)];intro w d;obtain a|a:=C7.mp d
  .rw[a];exact bC Fv.1.1 (c _ (by rw[b];exact f7))
  .exact c w (by rw[b];exact g0 _ a)
def Bv (a:Mt.jW n 20 ns) (b:1<=n) (f:n<=4):∀z∈mS (nT ns),Ng (λx=>Au x=none) 15 z:=λz d=>by
 have c:=jP λx g=>a.nn x g;have i:=Df a f;have h:∀z∈(["21","01","1,",",1","0,0","0","1,1,1,1,1","-1","+1","1;1","x","","1.0","100"]:List Str),Au z=none/\32 ∉ z.cps.toList/\z.length<=15:=by decide
 unfold mS at d;simp only[C7,B7,or_false] at d;obtain e|e|e|e|e|e|e|e|e|e|e|e|e|e|e|e|e|e|e|e:=d
 iterate 14 (rw[e];exact h _ (by simp))
 .rw[e];exact⟨Ar a b (w:="") (by decide) (by decide) (by decide),bC c qT.2.1,by rw[A9,qU.2.1];lia⟩
 .rw[e];exact⟨(vZ a b).1,bC qT.2.1 c,by rw[A9,qU.2.1];lia⟩
 .rw[e];exact⟨Ar a b (w:="21") (by decide) (by decide) (by decide),bC c qT.2.2.2.2.2.1,by rw[A9,qU.2.2.2.2.2.1];lia⟩
 .rw[e];exact⟨(vZ a b).2.1,bC c qT.2.2.2.1,by rw[A9,qU.2.2.2.1];lia⟩
 .rw[e];exact⟨(vZ a b).2.2,bC qT.2.2.1 c,by rw[A9,qU.2.2.1];lia⟩
 .rw[e];exact⟨Ar a b (w:="-1") (by decide) (by decide) (by decide),bC c qT.2.2.2.2.2.2,by rw[A9,qU.2.2.2.2.2.2];lia⟩
end
theorem qi:∀{fos ws:List Str},(∃(i:Nat) (a x:Str),fos[i]?=some a/\ws[i]?=some x/\av a x=none)->O3 fos ws=none
 | [],_,⟨i,a,x,h,_⟩=>by simp at h
 | _::_,[],⟨i,a,x,_,h,_⟩=>by simp at h
 | f::fos,w::ws,⟨i,a,x,b,c,e⟩=>by
  show (match av f w,O3 fos ws with|some d,some g=>some (d::g)|_,_=>none)=none;cases i with
  | zero=>cases b;cases c;rw[e]
  | succ i=>rw[qi ⟨i,a,x,b,c,e⟩];cases av f w <;> rfl
def BJ {a:Str}(c:32 ∉ a.cps.toList) (d:∀y∈ws,32 ∉ y.cps.toList) (h:∀fos,fA a=some fos->fos.length=ws.length->O3 fos ws=none):bf (C1 " " (a::ws))=none:=by
 unfold bf;rw[tY,aq (by simp) (λy f=>(C7.mp f).elim (λe=>by rw[e];exact c) (d y))];show (match fA a with|none=>none|some fos=>if fos.length=ws.length then (O3 fos ws).map λb=>(a,b) else none)=none;cases g:fA a with
 | none=>rfl
 | some fos =>
  show (if fos.length=ws.length then (O3 fos ws).map λb=>(a,b) else none)=none;split
  .rename_i e;rw[h fos g e];rfl
  .rfl
def Mn {a:Str}(i:Nat) (c:32 ∉ a.cps.toList) (d:fA a=some fos) (g:∀y∈ws,32 ∉ y.cps.toList) {b:Str} (h:fos[i]?=some b) (j:ws[i]?=some x) (k:av b x=none):bf (C1 " " (a::ws))=none :=
 BJ c g λf e _=>by rw[d] at e;cases e;exact qi ⟨i,b,x,h,j,k⟩
def tm {a:Str}(b:32 ∉ a.cps.toList) (c:fA a=some fos) (d:∀y∈ws,32 ∉ y.cps.toList) (g:fos.length≠ws.length):bf (C1 " " (a::ws))=none :=
 BJ b d λf e l=>by rw[c] at e;cases e;exact Zy l g
end G
namespace L2
open PySem PySem.Spec PyProof.Rows
def hT (ns:List Int):Int:=reduceHash (Builtin.Tuple.tupleHashOf (ns.map hashInt))
section
variable {prog:j0}{w:w5}
variable (prog w) in
abbrev TK (h:Heap) (ns:List Int) (a:Addr):Prop:=IsTupleKey (P9 prog w) h (ns.map cx) a
variable (prog w) in
def EsT (h:Heap) (B:List Int->Addr->Prop):List (List Int)->List (Int × b9)->Prop
 | [],b=>b=[]
 | k::c,b=>∃a r,b=(hT k,.ref a)::r/\(TK prog w h k a/\B k a)/\EsT h B c r
section
variable {h h':Heap}{B:List Int->Addr->Prop}
end
variable (prog w) in
structure SetT (h:Heap) (B:List Int->Addr->Prop) (S:Addr) (ks:List (List Int)) (t:SetTable):Prop where
 ex:∃o es ep,h.get? S=some o/\o.ExactSet/\o.data=.set es ep t/\EsT prog w h B ks es.toList
 fits:t.fits ks.length=true
 plain:t.plain=true
section
variable {A:A3}{E:b9->d9->Prop}{s:d9}
end
end
section
variable {prog:j0}{w:w5}{A:A3}{R:fZ->d9->Prop}{I:Addr}{fp wr:List Addr}{G:Array Ou->Array Ou->Prop}{n:Nat}{P:Nat->b9->Prop}{St:Nat->d9->Prop}
end
abbrev byTx (w:w5):Bool:=w.params.followText "set-order"
def OQ (t:SetTable):Nat->Nat
 | 0=>0
 | i+1=>t.place.getD i 0+1
def sl (w:w5) (t:SetTable) (i:Nat):Nat:=if byTx w=true then 0 else OQ t i
section
variable {prog:j0}{w:w5}{A:A3}{E:b9->d9->Prop}{s:d9}
end
section
variable {prog:j0}{w:w5}{A:A3}{E:b9->d9->Prop}{s:d9}
end
end L2
namespace L2
open PySem PySem.Spec PyProof.Rows HT
section
variable {prog:j0}{w:w5}{A:A3}{E:b9->d9->Prop}{s:d9}
end
section
variable {X:Cx}{H:Hp}
end
end L2
namespace HP
open PySem L2
section
abbrev KP:=List O0 × List O0
variable {A:A3}{E:b9->d9->Prop}{s:d9}
end
end HP
namespace L2
open PySem PySem.Spec PyProof.Rows HP
abbrev PX:=List (KP × Addr × Addr)
section
variable {P:j0}{w:w5}{H:Hp}{h:Heap}{a:Addr}{xs:PX}
end
section
variable {X:Cx}{o e f:Expr}{apos cpos pos:Pos}{td ty tx tv:TE}
end
section
variable {X:Cx}{pins:List (Addr × Obj)}{σ:St}{H:Hp}{s:d9}
end
end L2
namespace L2
open PySem PySem.Spec PyProof.Rows HT
section
variable {prog:j0}{w:w5}{A:A3}{E:b9->d9->Prop}{s:d9}
end
section
variable {X:Cx}{pins:List (Addr × Obj)}{σ:St}{H:Hp}{s:d9}
end
end L2
namespace L2
open PySem PySem.Spec PyProof.Rows HT HP
section
variable {prog:j0}{w:w5}{A:A3}{E:b9->d9->Prop}{s:d9}
end
def TrAt (H:Hp) (a:Addr) (u v:List Int):Prop:=∃c d b,H a=some (.tup (.ref c::.ref d::b))/\H c=some (.tup (u.map V.int))/\H d=some (.tup (v.map V.int))
structure Trs (H:Hp) (as:List Addr) (n:Nat) (ku kv:Addr->List Int):Prop where
 at_:∀a∈as,TrAt H a (ku a) (kv a)
 len:∀a∈as,(ku a).length=n
 nd:(as.map λa=>ku a++kv a).Nodup
section
variable {X:Cx}{pins:List (Addr × Obj)}{σ:St}{H:Hp}{s:d9}
end
end L2
namespace L2
open PySem PySem.Spec PyProof.Rows HT
section
variable {X:Cx}{pins:List (Addr × Obj)}{σ:St}{H:Hp}{s:d9}
end
end L2
namespace So
open PySem PyProof.Rows PySem.Spec L2
section
variable {prog:j0}{w:w5}{A:A3}{E:b9->d9->Prop}{s:d9}{rk:y6->Int}{M:y6->Prop}{κ:dh}{pd:Array (Nat × Nat × Nat)}{mg:Nat}
end
end So
namespace L2
open PySem PySem.Spec PyProof.Rows
section
variable {X:Cx}{K:m9}
end
end L2
namespace L2
open PySem PySem.Spec PyProof.Rows PySem.SeqAt
section
variable {K:m9}
def Fs {a:Addr}{xs:List V}{d:St}{tc:TT}{k:TE}{H:Hp}{F:List V->Hp->Prop} (u:xs.length<=j6) (Pv:Nat->List V->Hp->Prop) (o:Pv 0 [] H) (r:∀i c H,Pv i c H->c.length<=i) (s:∀i c H,i<=xs.length->Pv i c H->jc K H a xs) (h:d[0]?=some none)
  (hs:∀i c H x,xs[i]?=some x->Pv i c H->tc (d.set 0 (some x)) H λb l=>if b=true then k (d.set 0 (some x)) l (λy f=>Pv (i+1) (c++[y]) f) else Pv (i+1) c l) (hd:∀c H,Pv xs.length c H->F c H):Cj (Oc K a) d (V5 0) tc k H F:=by
 refine⟨λi m c H=>m=xs.length - i/\i<=xs.length/\Pv i c H,⟨xs.length,by simp,A6 _,o⟩,?_⟩;rintro i m c j ⟨rfl,t,p⟩;have q:=s i c j t p;have n:=r i c j p;refine⟨by lia,?_⟩;by_cases g:i<xs.length
 .refine .inr ⟨⟨xs,xs[i],q,by simp[g]⟩,λy f=>Pv (i+1) (c++[y]) f,λf=>Pv (i+1) c f,λy f q=>⟨xs.length - (i+1),by lia,rfl,g,q⟩,λf q=>⟨xs.length - (i+1),by lia,rfl,g,q⟩,λx v y=>?_⟩;obtain⟨rfl,y⟩:=y;exact⟨Wk.set (.inl h),hs i c _ x (y xs q) p⟩
 .have e:i=xs.length:=by lia
  subst e;exact .inl ⟨⟨xs,q,i4 _⟩,hd c j p⟩
end
end L2
namespace L2
open PySem PySem.Spec PyProof.Rows
section
variable {X:Cx}
end
section
variable {X:Cx}{K:m9}
end
section
variable {X:Cx}
end
end L2
namespace L2
open PySem PySem.Spec PyProof.Rows PySem.SeqAt
section
variable {X:Cx}{K:m9}
end
section
variable {X:Cx}{K:m9}
end
section
variable {X:Cx}{K:m9}
end
end L2
namespace L2
open PySem PySem.Spec PyProof.Rows HT
section
variable {X:Cx}{pins:List (Addr × Obj)}{σ:St}{H:Hp}{s:d9}
end
section
variable {X:Cx}{K:m9}
end
end L2
namespace L2
open PySem PySem.Spec PyProof.Rows
section
variable {X:Cx}{pos:Pos}
end
section
variable {X:Cx}
end
section
variable {X:Cx}
end
section
variable {prog:j0}{w:w5}{A:A3}{E:b9->d9->Prop}{s:d9}
end
section
variable {X:Cx}
end
theorem yk:∀{xs:List V}{ys:List b9},xs.length=ys.length->(∀(i:Nat) x y,xs[i]?=some x->ys[i]?=some y->K3 x y)->J9 xs ys
 | [],[],_,_=>.nil
 | x::xs,y::ys,c,h=>.cons (h 0 x y rfl rfl) (yk (by simpa using c) λi a b d e=>h (i+1) a b (by simpa using d) (by simpa using e))
 | [],_::_,c,_=>by simp at c
 | _::_,[],c,_=>by simp at c
def Fl (n:X.calm=true):cN X (.type "list") (λf H Q=>∃x,f=[.str x]/\x.cps.size<=1000/\∀l,H l=none->Q (.ref l) (C3 H l (.lst ((x.cps.toList.map iW).map V.str)))):=by intro g s A H f B Q I r h;obtain⟨x,rfl,o,q⟩:=h;obtain⟨u,rfl,p⟩:=kg r;obtain⟨t,rfl⟩:=p;have j:x.cps.size<=j6:=sz o;refine call_list_str (I.ok.hd n) x t (λv w d y kp e k=>?_) j;refine⟨.ref s.heap.objs.size,_,I.laid (t':=w) kp (i4 _) (show O4 X.prog X.w _ v _ (.lst ((x.cps.toList.map iW).map V.str)) from ⟨by rw[d8,d8,u9];exact j,d.toList,y,yk (by rw[d8,d8,u9,u9];exact k.1.symm) λi a b m z=>?_,by rw[Array.toArray_toList];exact e⟩),rfl,q _ (I.hok.fresh (i4 _))⟩;obtain⟨c,u,e1,e2⟩:=k.2 i b (by rw[<- G7];exact z);rw[w6,w6,G7,e1] at m;cases m;exact⟨u,e2⟩
def MI {x:Str}{g:TG}{k:TS}{D:oK}{a:St}{H:Hp} (Pv:Nat->St->Hp->Prop) (n:Pv 0 a H)
  (hs:∀i c a H,x.cps[i]?=some c->Pv i a H->g (.str (iW c)) a H λb j=>k { D with nx:=Pv (i+1),ct:=Pv (i+1),bk:=D.nx } b j) (hd:∀a H,Pv x.cps.size a H->D.nx a H):
  ∃W:Nat->Nat->St->Hp->Prop,(∃m,W 0 m a H)/\∀i m a H,W i m a H ->
   ((QZ x).stop i H/\D.nx a H) ∨ ((QZ x).go i H/\∃N:St->Hp->Prop,(∀d f,N d f->∃l,l<m/\W (i+1) l d f)/\∀y f,(QZ x).yld i H y f->g y a f λb j=>k { D with nx:=N,ct:=N,bk:=D.nx } b j):=by
 refine⟨λi m a H=>m=x.cps.size - i/\i<=x.cps.size/\Pv i a H,⟨x.cps.size,by simp,A6 _,n⟩,?_⟩;rintro i m a H ⟨rfl,s,p⟩;by_cases h:i<x.cps.size
 .refine .inr ⟨h,Pv (i+1),λd f q=>⟨x.cps.size - (i+1),by lia,rfl,h,q⟩,λy f o=>?_⟩;obtain⟨rfl,c,r,rfl⟩:=o;exact hs i c a _ r p
 .have e:i=x.cps.size:=by lia
  subst e;exact .inl ⟨i4 _,hd a H p⟩
section
variable {X:Cx}{pins:List (Addr × Obj)}{σ:St}{H:Hp}{s:d9}
def Itx (d:Addr) (o:Obj) (kvs:List (O0 × V)):It :=
 ⟨λi H=>H d=some (.frz o (.dK kvs))/\i<kvs.length,λi H v a=>∃k x,v=.str k/\a=H/\kvs[i]?=some (B8 k,x),λi H=>H d=some (.frz o (.dK kvs))/\kvs.length<=i⟩
variable {d:Addr}{kvs:List (O0 × V)}
def D1.frzK {o:Obj}{es:Array J2}{ep:Nat} (I:D1 X pins σ H s) (e:H d=some (.frz o (.dK kvs))) (hd:o.data=.dict es ep) (n:∀p∈kvs,∃k:Str,p.1=B8 k):
  s.heap.get? d=some o/\es.size=kvs.length/\∀(i:Nat),i<kvs.length->∃(k:Str) (x:V) (f:J2) (t:Tok),kvs[i]?=some (B8 k,x)/\es[i]?=some f/\f.key=.str k t:=by
 obtain⟨g,_,_,A,r,B,q,v,h,_,j,_,b,_⟩:=(show O4 X.prog X.w H s.heap d (.frz o (.dK kvs)) from I.hok d _ e)
 rw[g] at h;cases h;rw[hd] at j;cases j;have l:=Jq r;refine⟨g,by rw[<- u9,b.length];exact l.symm,λi m=>?_⟩;obtain⟨⟨C,x⟩,c⟩:∃p,kvs[i]?=some p:=⟨_,j4 m⟩
 obtain⟨k,w⟩:=n _ (r0 c);cases w;obtain⟨⟨D,u⟩,y,eq,_⟩:=Paired.get r c;cases eq;have a:i<es.toList.length:=by rw[b.length,<- l];exact m
 have z:=b.get? (j4 a) y;obtain⟨t,e⟩:=aR (x:=k) (v:=es.toList[i].key) z.1;exact⟨k,x,_,t,c,by rw[<- G7];exact j4 a,e⟩
def Ax {P:j0}{w:w5}{K:m9}{L:Expr}{it:Addr}{o:Obj}{es:Array J2}{ep:Nat} (hd:o.data=.dict es ep) (D:∀p∈kvs,∃k:Str,p.1=B8 k):
  pV P w K L (Itx d o kvs) [it] it (λi h=>h.IsKeyIter it d i es.size ep) where
 mem:=by simp
 obj:=λi h st c a=>by obtain⟨ob,e,_,dd⟩:=st;simp only[C7,B7,or_false] at a;subst a;exact⟨_,e,λv q=>by rw[dd] at q;cases q⟩
 keep:=λi h j st k=>st.at λo e=>k it (by simp) o e
 item:=by intro X m n r a i pins s σ H E I l st u;subst m n r;obtain⟨y,J⟩:=u;obtain⟨z,A,f⟩:=I.frzK y hd D;obtain⟨k,x,U,t,B,e1,e2⟩:=f i J;obtain⟨M,N,V,O,Q,R⟩:=l it (by simp);refine BN st z hd e1 λj g S=>?_;rw[e2];have T:D1 X pins σ H { s with heap:=j }:=I.turned (t':=s.toks) (λb o C e=>(S.2 b C).trans e) M N O Q R;obtain⟨ob,e,c,dd⟩:=id g;exact⟨_,rfl,zf (s:={ s with heap:=j }) e c dd (by decide) ⟨.str k,H,T,⟨_,rfl⟩,⟨k,x,rfl,rfl,B⟩,g,λb C=>(l b C).1⟩⟩
 done:=by intro X m n r a i pins s σ H E I l st u;subst m n r;obtain⟨y,J⟩:=u;obtain⟨z,A,_⟩:=I.frzK y hd D;exact EN (I.ok.hd a) st z hd (by lia) λj keep=>⟨rfl,I.turnedL (t':=s.toks) (ch:=[it]) (λc o a e=>keep c o (λq=>a (by simp[q])) e) l⟩
 self:=λ_ _ _ _ _ st h=>wpAny_pyIter_keyiter st h
def D1.freezeK (I:D1 X pins σ H s) (e:H d=some (.dK kvs)):∃o f g,o.data=.dict f g/\s.heap.get? d=some o/\o.ExactDict/\D1 X pins σ (C3 H d (.frz o (.dK kvs))) s:=by
 have ok:=(show O4 X.prog X.w H s.heap d (.dK kvs) from I.hok d _ e)
 obtain⟨_,_,_,_,o,f,g,i,j,k,_⟩:=id ok;refine⟨o,f,g,k,i,j,?_⟩;have tup:∀b h,H b=some (.tup h)->C3 H d (.frz o (.dK kvs)) b=some (.tup h):=λb h q=>by rw[t9 (jt q e (by intro z;cases z))];exact q
 have own:∀b c,H b=some (.own c)->C3 H d (.frz o (.dK kvs)) b=some (.own c):=λb c q=>by rw[t9 (jt q e (by intro z;cases z))];exact q
 have:=I.step (H':=C3 H d (.frz o (.dK kvs))) (h':=s.heap) (g':=s.gens) (d':=s.drawn) (t':=s.toks) (ch:=[]) (λ_ z=>nomatch z) (λb o _ _ _ q _=>q) (λb o _ _ _ q _=>⟨o.slots,q⟩)
  (λb o _ _ n=>by
   by_cases a:b=d
   .subst a;rw[e] at n;cases n
   .rw[t9 a];exact n) (λb o _ q=>⟨o,q⟩) tup (λb o u q=>by rw[t9 (jt q e (by intro z;cases z))];exact q) (λb p q=>⟨#[],by rw[t9 (jt q e (by intro z;cases z)),q];simp⟩) (λm l=>l)
  (λb ob q=>by
   by_cases a:b=d
   .subst a;rw[j3] at q;cases q;exact⟨i,ok.stay (λc v _ q=>q) (λc q=>own c _ q) tup⟩
   .rw[t9 a] at q;exact(I.hok b ob q).stay (λc v _ q=>q) (λc q=>own c _ q) tup) I.bare
 exact this
def QC (b:TE):TI:=λσ H R=>b σ H λx a=>∃d kvs,x=.ref d/\a d=some (.dK kvs)/\(∀p∈kvs,∃k:Str,p.1=B8 k)/\∀o,R (Itx d o kvs) (C3 a d (.frz o (.dK kvs)))
def Ie {e p:Expr}{k:TE} (r:PE X e k):PI X p e (QC k):=by
 intro pins s σ H R I h;refine S6 (r pins s σ H _ I h) λv g ⟨x,l,m,t,d,kvs,u,n,w,q⟩=>?_;subst u;cases t;obtain⟨o,z,A,a,c,i,j⟩:=m.freezeK n;obtain⟨_,f,_⟩:=(show O4 X.prog X.w l g.heap d (.dK kvs) from m.hok d _ n)
 refine BM f ⟨o,c,i.1⟩ c a ?_;refine⟨_,[_],_,_,C3 l d (.frz o (.dK kvs)),rfl,j.kept (t':=g.toks) λb o e=>f6 _ e,Ax a w,⟨_,j7 _ rfl,rfl,rfl⟩,λb y=>?_,q o⟩;have e:b=g.heap.objs.size:=by simpa using y
 subst e;exact j.fpOk (i4 _) (j.hok.fresh (i4 _))
end
def Fu {d:Addr}{o:Obj}{kvs:List (O0 × V)}{c:St}{tc:TT}{n:TE}{H:Hp}{F:List V->Hp->Prop} (C:kvs.length<=j6) (Pv:Nat->List V->Hp->Prop) (t:Pv 0 [] H) (u:∀i a H,Pv i a H->a.length<=i)
  (w:∀i a H,i<=kvs.length->Pv i a H->H d=some (.frz o (.dK kvs))) (h:c[0]?=some none)
  (hs:∀i a H k x,kvs[i]?=some (B8 k,x)->Pv i a H->tc (c.set 0 (some (.str k))) H λb r=>if b=true then n (c.set 0 (some (.str k))) r (λz f=>Pv (i+1) (a++[z]) f) else Pv (i+1) a r)
  (hd:∀a H,Pv kvs.length a H->F a H):Cj (Itx d o kvs) c (V5 0) tc n H F:=by
 refine⟨λi m a H=>m=kvs.length - i/\i<=kvs.length/\Pv i a H,⟨kvs.length,by simp,A6 _,t⟩,?_⟩;rintro i m a j ⟨rfl,A,p⟩;have q:=w i a j A p;have s:=u i a j p;refine⟨by lia,?_⟩;by_cases g:i<kvs.length
 .refine .inr ⟨⟨q,g⟩,λy f=>Pv (i+1) (a++[y]) f,λf=>Pv (i+1) a f,λy f q=>⟨kvs.length - (i+1),by lia,rfl,g,q⟩,λf q=>⟨kvs.length - (i+1),by lia,rfl,g,q⟩,λv D l=>?_⟩;obtain⟨k,x,rfl,rfl,B⟩:=l;exact⟨Wk.set (.inl h),hs i a _ k x B p⟩
 .have e:i=kvs.length:=by lia
  subst e;exact .inl ⟨⟨q,i4 _⟩,hd a j p⟩
end L2
namespace G
open PySem PySem.Spec PyProof.Rows L2 Mt
def vi:R2:=λx y H Q=>∃i j,x=.str i/\y=.str j/\i.length+j.length<=j6/\Q (.str (i++j)) H
def Tx (m:Nat) (a:TE) (b:L2.St) (x:Str):Prop:=(∀(H:Hp) (Q:VK),Q (.str x) H->a b H Q)/\x.length<=m
def qG (a:TA) (b:L2.St) (xs:List Str):Prop:=∀(H:Hp) (Q:List V->Hp->Prop),Q (xs.map V.str) H->a b H Q
section
variable {m n:Nat}{te tb:TE}{ta:TA}{σ:L2.St}{x y:Str}{xs ys:List Str}{i:Nat}
def Tx.c {s:Str} (h:s.length<=9:=by decide):Tx 9 (tC (.str s)) σ s:=⟨λ_ _ q=>q,h⟩
def Tx.v (a:σ[i]?=some (some (.str x))) (h:x.length<=m):Tx m (rR i) σ x:=⟨λ_ _ q=>⟨_,a,q⟩,h⟩
def Tx.a (a:Tx m te σ x) (b:Tx n tb σ y) (h:m+n<=1000:=by decide):Tx (m+n) (Eh vi te tb) σ (x++y):=
 ⟨λH Q q=>a.1 H _ (b.1 H _ ⟨_,_,rfl,rfl,by have:=a.2;have:=b.2;exact sz (by lia),q⟩),by rw[A9];have:=a.2;have:=b.2;lia⟩
def qG.o:qG rS σ []:=λ_ _ q=>q
def qG.s (a:Tx m te σ x) (b:qG ta σ xs):qG (kM te ta) σ (x::xs):=λH Q q=>a.1 H _ (b H _ q)
def qG.k {s:Str} (a:qG ta σ xs):qG (kM (tC (.str s)) ta) σ (s::xs):=λH Q q=>a H _ q
def qG.run {Q:VK}{H:Hp} (h:qG ta σ xs) (a:xs.length<=1000) (q:∀p,H p=none->Q (.ref p) (C3 H p (.lst (xs.map V.str)))):Ei ta σ H Q:=h H _ ⟨by rw[d8];exact sz a,q⟩
def qG.cat {Q:VK}{H:Hp}{p:Addr} (h:qG ta σ ys) (f:H p=some (.lst (xs.map V.str))) (g:xs.length+ys.length<=1000) (j:σ[i]?=some (some (.ref p))) (q:∀b c,u7 H c->c b=some (.lst ((xs++ys).map V.str))->H b=none->Q (.ref b) c):Eh HV (rR i) (Ei ta) σ H Q:=by
 refine⟨_,j,h.run (by lia) λr d=>⟨p,r,_,_,rfl,rfl,u7.new d _ _ f,j3,by rw[d8,d8];exact sz g,λz a=>q z _ ((u7.new d).trans (u7.new a)) (by rw[j3,v9]) ?_⟩⟩;by_cases e:z=r
 .rw[e,j3] at a;cases a
 .rwa [t9 e] at a
end
section
variable {m k:Nat}{te:TE}{tp:TO}{σ:L2.St}{x:Str}
def Tx.to (h:Tx m te σ x) (a:∀(H:Hp) (R:Option Int->Hp->Prop),R (some (k:Int)) H->tp σ H R) (b:m<=1000:=by decide):Tx m (tSl L2.LH te wb tp) σ (O7 x none (some (k:Int))):=
 ⟨λH Q q=>h.1 H _ (a H _ ⟨x,rfl,sz (j9 h.2 b),q⟩),j9 (rJ ..) h.2⟩
def Tx.fr (h:Tx m te σ x) (a:∀(H:Hp) (R:Option Int->Hp->Prop),R (some (k:Int)) H->tp σ H R) (b:m<=1000:=by decide):Tx m (tSl L2.LH te tp wb) σ (O7 x (some (k:Int)) none):=
 ⟨λH Q q=>h.1 H _ (a H _ ⟨x,rfl,sz (j9 h.2 b),q⟩),j9 (rJ ..) h.2⟩
end
variable {σ:L2.St}{H:Hp}
def kh {N:L2.St->Hp->Prop}{D:oK}(h:N σ H):({ D with nx:=N }:oK).nx σ H:=h
def bt {a:TE}{i:Nat}{u:TS}{D:oK}(h:a σ H λv b=>u D (σ.set i (some v)) b):pf (GB a (V5 i)) u D σ H:=h
def Jw {xs:List Str}{k:Nat} (h:k<xs.length):xB (xs.map V.str) (k:Int)=some (.str xs[k]):=M7 (by rw[w6,j4 h];rfl)
section
variable {c c' a b d d' e' o w:Str}
def S1 (h:c'=c++" "):c'++a=C1 " " [c,a]:=by rw[G5,E3,aE,h]
def S2 (h:c'=c++" "):c'++a++" "++b=C1 " " [c,a,b]:=by rw[G5,E3,E3,aE,h];simp only[V3]
def S2' (h:c'=c++" ") (e:d'=" "++d):c'++a++d'=C1 " " [c,a,d]:=by rw[<- S2 h,e];simp only[V3]
def S3 (h:c'=c++" "):c'++a++" "++b++" "++w=C1 " " [c,a,b,w]:=by rw[G5,E3,E3,E3,aE,h];simp only[V3]
def UE (h:c'=c++" ") (e:d'=" "++d):c'++a++" "++b++d'=C1 " " [c,a,b,d]:=by rw[<- S3 h,e];simp only[V3]
def S4 (h:c'=c++" "):c'++a++" "++b++" "++w++" "++o=C1 " " [c,a,b,w,o]:=by rw[G5,E3,E3,E3,E3,aE,h];simp only[V3]
def S4' (h:c'=c++" ") (e:e'=" "++(d++" ")):c'++a++" "++b++e'++o=C1 " " [c,a,b,d,o]:=by rw[<- S4 h,e];simp only[V3]
end
def Ok (x:Str):Prop:=32 ∉ x.cps.toList/\x.length<=60
def Bad (x:Str):Prop:=bf x=none/\x.length<=400
variable {x:Str}
def IL (h:(!x.cps.toList.contains 32&&decide (x.length<=60))=true):Ok x:=by rw[A4,nD] at h;exact⟨by simpa using h.1,Zx h.2⟩
def vq (h:N8 x=true):Ok x:=⟨dJ h,by have:=(cY h).2.1;lia⟩
variable {p:Str->Prop}
def IM {m:Nat}(h:Ng p m x) (a:m<=60):Ok x:=⟨h.2.1,by have:=h.2.2;lia⟩
def SW {n:Nat}{ns:List Int} (a:Mt.jW n 20 ns) (b:n<=4):Ok (nT ns):=⟨jP λz c=>a.nn z c,by have:=Df a b;lia⟩
def PY {n:Nat}{rs:List (List Int)} (a:Mt.jx n 5 rs) (c:n<=4):Ok (rT rs):=⟨gS (qr a),by
 have:=Jm (rs:=rs) (by rw[a.len];lia) λr b=>⟨by rw[(a.row r b).len];lia,qr a r b⟩
 lia⟩
variable {b:Str}
def yW {a c:Str} (f:p a) (g:p b) (h:p c):∀y∈[a,b,c],p y:=λy d=>by simp only[C7,B7,or_false] at d;rcases d with e|e|e <;> (rw[e];assumption)
def xh {a:Str} (c:p a) (d:p b):∀y∈[a,b],p y:=λy f=>(C7.mp f).elim (λe=>by rw[e];exact c) λe=>by rw[ZZ.mp e];exact d
def mem1 {a:Str} (c:p a):∀y∈[a],p y:=λy d=>by rw[ZZ.mp d];exact c
def Ml {a c d:Str} (f:p a) (g:p b) (h:p c) (hd:p d):∀y∈[a,b,c,d],p y:=λy i=>(C7.mp i).elim (λe=>by rw[e];exact f) (yW g h hd y)
def fM {a:Str}{ws fos:List Str} (c:fA a=some fos/\32 ∉ a.cps.toList) (e:x=C1 " " (a::ws)) (f:∀y∈ws,Ok y) (i:Nat) {d y:Str} (g:av d y=none) (h:fos[i]?=some d:=by rfl) (j:ws[i]?=some y:=by rfl):bf x=none:=by rw[e];exact Mn i c.2 c.1 (λy k=>(f y k).1) h j g
structure Ln (x z cmd:Str) (ws fos:List Str):Prop where
 e:z=C1 " " (cmd::x::ws)
 f:fA cmd=some (("name":Str)::fos)
 l:fos.length=ws.length
 w:∀y∈x::ws,Ok y
 c:32 ∉ cmd.cps.toList
 nk:cmd≠"kept"
def nmB (a:N8 x=false):av "name" x=none:=by unfold av;rw[ZB rfl,ZC (by rw[a];exact v8)]
def UB (a:xS x=none):av "rule" x=none:=by unfold av;rw[ZC (by decide),ZC (by decide),ZB rfl,a];rfl
def urB (a:Au x=none):av "urn" x=none:=by unfold av;rw[ZC (by decide),ZB rfl,a];rfl
def UD (a:NT x=none):av "figure" x=none:=by unfold av;rw[ZC (by decide),ZC (by decide),ZC (by decide),a];rfl
section
variable {x z cmd:Str}{ws fos:List Str}
def Ln.bad (h:Ln x z cmd ws fos) (a:N8 x=false):bf z=none:=fM ⟨h.f,h.c⟩ h.e h.w 0 (nmB a)
def Ln.ok (h:Ln x z cmd ws fos):∀y∈cmd::x::ws,32 ∉ y.cps.toList:=λy a=>(C7.mp a).elim (λe=>by rw[e];exact h.c) λe=>(h.w y e).1
def Ln.bl (h:Ln x z cmd ws fos):z=cmd++" "++C1 " " (x::ws)/\bf (" "++z)=none/\bf (z++" ")=none/\bf (cmd++" "++(" "++C1 " " (x::ws)))=none/\bf (z++" n")=none:=by
 have e0:32 ∉ ("":Str).cps.toList/\32 ∉ ("n":Str).cps.toList:=by decide
 have a:=h.ok;have more:∀v:Str,32 ∉ v.cps.toList->bf (C1 " " (cmd::(x::ws++[v])))=none:=λv f=>tm h.c h.f (λy c=>(ZX.mp c).elim (λe=>a y (g0 _ e)) λe=>by rw[ZZ.mp e];exact f) (by simp[h.l]);refine⟨by rw[h.e,tL _ _ _ (by simp)],?_,?_,?_,?_⟩
 .rw[h.e,oA _ _ (by simp)];exact BJ e0.1 a λfos d=>by rw[show fA ""=none by decide] at d;cases d
 .rw[h.e,tK _ _ (by simp)];exact more _ e0.1
 .rw[oA _ _ (by simp),tL _ _ _ (by simp)];exact tm h.c h.f (λy c=>(C7.mp c).elim (λe=>by rw[e];exact e0.1) λe=>a y (g0 _ e)) (by simp[h.l])
 .rw[h.e,show (" n":Str)=" "++"n" by decide,pR _ _ (by simp)];exact more _ e0.2
end
def yw {k:Nat} (h:k<=x.length):(O7 x none (some (k:Int))).cps.toList=x.cps.toList.take k:=by have a:x.cps.toList.length=x.length:=u9;rw[Zs.mp (slice_closes_to (x:=x) (j:=k) ⟨by lia,by lia⟩)];simp
def GL {k:Nat} (h:k<=x.length):(O7 x (some (k:Int)) none).cps.toList=x.cps.toList.drop k:=by have a:x.cps.toList.length=x.length:=u9;rw[Zs.mp (slice_closes_from (x:=x) (i:=k) ⟨by lia,by lia⟩)];simp only[List.toList_toArray,M9];exact C0 (by rw[J5];lia)
def kZ (x y:Str):(x++y).cps.toList=x.cps.toList++y.cps.toList:=D3
theorem yS (s sub:Str) (c:Nat):∀(l:List Nat) (st:Array Nat × Nat),1<=st.1.size->(forIn (m:=Id) l st (kD s sub c 1)).run.fst=st.1
 | [],_,_=>rfl
 | a::l,st,h=>by rw[bP];unfold kD;rw[ZC (λz=>by have:=z.1.1.1;lia)];exact yS s sub c l _ h
theorem IR (s:Str) (c k:Nat) (d:s.cps.toList[k]?=some c) (g:∀i,i<k->s.cps.toList[i]?≠some c):∀(n a f:Nat),f<=a->a<=k->k<a+n->(forIn (m:=Id) (List.range' a n) ((#[]:Array Nat),f) (kD s ⟨#[c]⟩ s.length 1)).run.fst=#[k]
 | 0,a,f,_,h,j=>by lia
 | n+1,a,f,l,h,j=>by
  rw[List.range'_succ,bP];unfold kD;by_cases e:a=k
  .subst e;have z:=(FH s c a).mpr d;rw[ZB ⟨⟨⟨Nat.zero_lt_one,l⟩,z.1⟩,z.2⟩];exact yS s _ _ _ _ (by simp)
  .rw[ZC (λz=>g a (by lia) ((FH s c a).mp ⟨z.1.2,z.2⟩))];exact IR s c k d g n (a+1) f (by lia) (by lia) (by lia)
def EF {s:Str}{c k:Nat} (a:s.cps.toList[k]?=some c) (d:∀i,i<k->s.cps.toList[i]?≠some c):C9 s ⟨#[c]⟩ 0 s.length 1=k::[]:=by have e:s.cps.toList.length=s.length:=u9;have:=(ZW.mp a).1;rw[StrLaws.occ_eq,IR s c k a d _ 0 0 (i4 _) (A6 _) (by lia)]
section
variable {P:j0}{w:w5}{K:m9}{mg:Str->Option b9}{base:Heap}{f:Addr}{fd:C5}
def zP:Str->Prop:=Ng (λy=>N8 y=false) 10
def AE:Sp:=λd H Q _=>∃(l:Addr) (x:Int) (b:Bool) (a:Str),d=[.ref l,.str a]/\H l=some (.lst [.int x,.bl b])/\ni x b/\N8 a=true/\∀y c,zP y->cW l b H c->Q (.str y) c
abbrev GZ:Stmt:=top 79
def sj:C6 ["_law_state_here","_law_name_here","_law_at","_law_signs","_law_sign","_law_some"] ["_law_state_here","_law_name_here"] (A0 GZ):=aS
def Rw:Str:="ABCDEFGHIJKLMNOPQRSTUVWXYZ0123456789`{_-.:;,!#$&'()*+/<=>?\x40[]^|}~"
def AO:Rw.length=65/\∀k:Nat,k<65->∃c,xB Rw.cps.toList (k:Int)=some c/\letP c=false/\c≠32:=⟨by decide,λk a=>by
 have:∀k:Fin 65,(match xB Rw.cps.toList ((k.1:Nat):Int) with|some c=>!letP c&&c != 32|none=>false)=true:=by decide
 have z:=this ⟨k,a⟩;dsimp only at z;revert z;cases xB Rw.cps.toList (k:Int) with
 | none=>intro z;cases z
 | some c=>intro z;rw[A4] at z;exact⟨c,rfl,by simpa using z.1,by simpa using z.2⟩⟩
def zI {x:Str}{A B:List Nat}{c:Nat} (h:x.cps.toList=A++c::B) (a:letP c=false/\c≠32) (d:32 ∉ A) (g:32 ∉ B) (i:A.length+B.length<=8):zP x:=by
 refine⟨?_,λz=>?_,by rw[show x.length=x.cps.toList.length from u9.symm,h,y9,n5];lia⟩
 .show N8 x=false;unfold N8;rw[h,List.all_append,kc,a.1,X5,nF,nF]
 .rw[h] at z;obtain e|e:=ZX.mp z
  .exact d e
  .exact(C7.mp e).elim (λe=>a.2 e.symm) g
def PU (F:aU K "_law_spoiled" "_law_spoiled" GZ f fd) (B:Bt mg) (c1:Y1 P w K mg base 1 "_law_take" ["_law_state_here","_law_many"] gr):K6 P w K mg base ee 2 f fd ["_law_state_here","_law_name_here"] AE:=by
 refine F.ok sj (λvs H Q E h=>?_) (λa1 A I s H vs Q E J h=>?_)
 .obtain⟨l,x,b,d,rfl,_⟩:=h;rfl
 obtain⟨l,x,b,d,rfl,hl,j,m,q⟩:=h;refine⟨_,(m8 (F7 (i:=2) sj.nd rfl (B6 rfl) (D9 c1 J rfl (b8 (pv 0) (b8 (D4 gx rfl B.len J8 (b8 (pv 1) i3)) i3))))
  (m8 (F7 (i:=3) sj.nd rfl (B6 rfl) n9)
  (m8 (F7 (i:=4) sj.nd rfl (B6 rfl) (R5 Jv (pv 3) (D9 c1 J rfl (b8 (pv 0) (b8 (D4 gx rfl B.len J8 (b8 (pv 3) i3)) i3))) (λ_ _=>rfl)))
  (m8 (F7 (i:=5) sj.nd rfl (B6 rfl) (S0 (b8 (y8 i8 (y8 i8 (Y9 fK (pv 1) aY (aX (pv 2))) (pv 4)) (Y9 fK (pv 1) (aX (y8 dI (pv 2) A7)) aY)) (b8 (y8 i8 (y8 i8 (Y9 fK (pv 1) aY (aX (pv 2))) (pv 4)) (Y9 fK (pv 1) (aX (y8 dI (pv 2) A7)) aY)) (b8 (y8 i8 (y8 i8 (Y9 fK (pv 1) aY (aX (pv 2))) (pv 4)) (Y9 fK (pv 1) (aX (pv 2)) aY)) i3)))))
  (u6 (C8 (R5 U8 (y8 bV (pv 5) (S0 (b8 (y8 i8 (Y9 fK (y8 i8 (pv 1) n9) aY (aX A7)) (Y9 fK (pv 1) aY (aX A7))) (b8 n9 i3)))) (D9 c1 J rfl (b8 (pv 0) (b8 A7 i3))) (λ_ _=>rfl)))))))),?_⟩
 have s0:cW l b H H:=cW.start hl j;obtain⟨n1,g,a0⟩:=cY m;have nl:d.cps.toList.length=d.length:=u9;have n:32 ∉ d.cps.toList:=dJ m;refine⟨_,rfl,_,rfl,_,rfl,sz (by lia),l,_,x,b,rfl,hl,j,by lia,by lia,λa x1 a2 L=>?_⟩;have M:=s0.go L;try dsimp -proj only[V5]
 generalize C3 H l (.lst [.int x1,.bl b])=H1 at M;obtain⟨_,N,O,o⟩:=id M;refine⟨_,rfl,_,rfl,_,rfl,_,rfl,(by show Rw.length<=_;rw[AO.1];decide),l,65,N,b,(by show _=[V.ref l,V.int 65];rw[show (("ABCDEFGHIJKLMNOPQRSTUVWXYZ0123456789`{_-.:;,!#$&'()*+/<=>?\x40[]^|}~":Str).length:Int)=65 by decide]),O,o,by decide,by decide,λk x2 hk FR=>?_⟩;obtain⟨c,hc,t⟩:=AO.2 k (by lia);refine⟨_,_,c,rfl,rfl,(by show Rw.length<=_;rw[AO.1];decide),hc,?_⟩;have s2:=M.go FR;try dsimp -proj only[V5]
 generalize C3 H1 l (.lst [.int x2,.bl b])=H2 at s2;have ha:a<d.length:=by lia
 have hA:=yw (x:=d) (k:=a) (by lia);have hB:=GL (x:=d) (k:=a+1) (by lia);have S:=GL (x:=d) (k:=a) (by lia);have lc:(⟨#[c]⟩:Str).length<=9:=by show 1<=9;decide
 refine kh ?_;refine bt ?_;refine qG.run (.s (.a (.a (.to (.v rfl g) λH R r=>⟨_,rfl,_,rfl,r⟩) (.v rfl lc)) (.fr (k:=a+1) (.v rfl g) λH R r=>⟨_,rfl,_,_,rfl,rfl,_,rfl,r⟩)) (.s (.a (.a (.to (.v rfl g) λH R r=>⟨_,rfl,_,rfl,r⟩) (.v rfl lc)) (.fr (k:=a+1) (.v rfl g) λH R r=>⟨_,rfl,_,_,rfl,rfl,_,rfl,r⟩)) (.s (.a (.a (.to (.v rfl g) λH R r=>⟨_,rfl,_,rfl,r⟩) (.v rfl lc)) (.fr (.v rfl g) λH R r=>⟨_,rfl,_,rfl,r⟩)) .o))) (by show 3<=1000;decide) λp hp=>?_;have s3:=s2.new (o:=.lst (List.map V.str [O7 d none (some (a:Int))++⟨#[c]⟩++O7 d (some ((a+1:Nat):Int)) none,O7 d none (some (a:Int))++⟨#[c]⟩++O7 d (some ((a+1:Nat):Int)) none,O7 d none (some (a:Int))++⟨#[c]⟩++O7 d (some (a:Int)) none])) hp;refine qG.cat (.s (.a (.to (k:=8) (.a (.v rfl g) .c) λH R r=>⟨_,rfl,r⟩) (.to (k:=1) (.v rfl g) λH R r=>⟨_,rfl,r⟩)) (.k .o)) j3 (by show 5<=1000;decide) rfl λT H4 g4 i _=>?_;have s4:=s3.same g4;obtain⟨_,x4,u,U⟩:=id s4;refine⟨_,rfl,l,5,x4,b,rfl,u,U,by decide,by decide,λy x5 hy X=>?_⟩;have np:T≠l:=λz=>by rw[z,u] at i;cases i
 have v:∀{A B:Str},(A++⟨#[c]⟩++B).cps.toList=A.cps.toList++c::B.cps.toList:=λ{A B}=>by rw[kZ,kZ,U5];rfl
 have nt:32 ∉ d.cps.toList.take a:=λz=>n (D6 z);have w1:zP (O7 d none (some (a:Int))++⟨#[c]⟩++O7 d (some ((a+1:Nat):Int)) none):=zI (v.trans (by rw[hA,hB])) t nt (λz=>n (N0 z)) (by rw[B0,J5];lia);have w2:zP (O7 d none (some (a:Int))++⟨#[c]⟩++O7 d (some (a:Int)) none):=zI (v.trans (by rw[hA,S])) t nt (λz=>n (N0 z)) (by rw[B0,J5];lia);have w3:zP (O7 (d++"abcdefgh") none (some ((8:Nat):Int))++O7 d none (some ((1:Nat):Int))):=by
  have e8:("abcdefgh":Str).length=8/\32 ∉ ("abcdefgh":Str).cps.toList:=by decide
  have h8:=yw (x:=d++"abcdefgh") (k:=8) (by rw[A9];lia);have h1:=yw (x:=d) (k:=1) n1;have Y:(O7 (d++"abcdefgh") none (some ((8:Nat):Int))++O7 d none (some ((1:Nat):Int))).length=9:=by rw[A9,show ∀z:Str,z.length=z.cps.toList.length from λz=>u9.symm,h8,show ∀z:Str,z.length=z.cps.toList.length from λz=>u9.symm,h1,B0,B0,nl,kZ,y9,nl,show ("abcdefgh":Str).cps.toList.length=8 from e8.1];lia
  refine⟨?_,λz=>?_,by lia⟩
  .show N8 _=false;unfold N8;rw[Y];rfl
  .rw[kZ,h8,h1] at z;obtain e|e:=ZX.mp z
   .have:=D6 e;rw[kZ] at this;exact(ZX.mp this).elim n e8.2
   .exact n (D6 e)
 have w4:zP "":=⟨by decide,by decide,by decide⟩
 obtain⟨C,hz,a3,Z⟩:∃C:List Str,(∀z∈C,zP z)/\C.length=5/\H4 T=some (.lst (C.map V.str)):=⟨_,ZS.mpr ⟨w1,ZS.mpr ⟨w1,ZS.mpr ⟨w2,xh w3 w4⟩⟩⟩,rfl,i⟩
 have D:y<C.length:=by lia
 exact⟨T,_,_,_,rfl,rfl,.of (Kp.at _ _ np Z),Jw D,q _ _ (hz _ (af D)) (s4.go X)⟩
def iZ (x o r:Str):List Str:=["draw "++x++" "++r++" 0 "++o,"show "++x,"chance "++x++" 0","stands "++x++" "++r++" 2","mean "++x++" "++r++" 2","fair "++x++" "++r]
def wk:Sp:=λc H Q _=>∃x o r:Str,c=[.str x,.str o,.str r]/\x.length<=60/\o.length<=60/\r.length<=60/\∀p a,u7 H a->H p=none->a p=some (.lst ((iZ x o r).map V.str))->Q (.ref p) a
abbrev Hv:Stmt:=top 80
def AU:C6 ["_law_name_here","_law_other","_law_rule_here","_law_some"] ["_law_name_here","_law_other","_law_rule_here"] (A0 Hv):=aS
def Qd (F:aU K "_law_named" "_law_named" Hv f fd):K6 P w K mg base ee 1 f fd ["_law_name_here","_law_other","_law_rule_here"] wk:=by
 refine F.ok AU (λn H Q E h=>?_) (λt A d s H n Q E z h=>?_)
 .obtain⟨x,o,r,rfl,_⟩:=h;rfl
 obtain⟨x,o,r,rfl,c,u,a,q⟩:=h;refine⟨_,(m8 (F7 (i:=3) AU.nd rfl (B6 rfl) (S0 (b8 (y8 i8 (y8 i8 (y8 i8 (y8 i8 (y8 i8 n9 (pv 0)) n9) (pv 2)) n9) (pv 1)) (b8 (y8 i8 n9 (pv 0)) (b8 (y8 i8 (y8 i8 n9 (pv 0)) n9) i3)))))
  (m8 (F7 (i:=3) AU.nd rfl (B6 rfl) (y8 bV (pv 3) (S0 (b8 (y8 i8 (y8 i8 (y8 i8 (y8 i8 n9 (pv 0)) n9) (pv 2)) n9) (b8 (y8 i8 (y8 i8 (y8 i8 (y8 i8 n9 (pv 0)) n9) (pv 2)) n9) i3)))))
  (u6 (C8 (y8 bV (pv 3) (S0 (b8 (y8 i8 (y8 i8 (y8 i8 n9 (pv 0)) n9) (pv 2)) i3))))))),?_⟩
 refine bt ?_;refine qG.run (.s (.a (.a (.a (.a (.a .c (.v rfl c)) .c) (.v rfl a)) .c) (.v rfl u)) (.s (.a .c (.v rfl c)) (.s (.a (.a .c (.v rfl c)) .c) .o))) (by show 3<=1000;decide) λp j=>?_;refine bt ?_;refine qG.cat (.s (.a (.a (.a (.a .c (.v rfl c)) .c) (.v rfl a)) .c) (.s (.a (.a (.a (.a .c (.v rfl c)) .c) (.v rfl a)) .c) .o)) j3 (by show 5<=1000;decide) rfl λB C k g D=>?_;refine qG.cat (.s (.a (.a (.a .c (.v rfl c)) .c) (.v rfl a)) .o) g (by show 6<=1000;decide) rfl λl v y i m=>?_;refine q l v ((u7.new j).trans (k.trans y)) ?_ i;cases e:H l with
 | none=>rfl
 | some o=>rw[((u7.new j).trans k) _ _ e] at m;cases m
def sR {x o r:Str} (a:Ok x) (t:Ok o) (l:Ok r):∀z∈iZ x o r,∃c v s,Ln x z c v s/\z.length<=250/\c≠"urn"/\(N8 x=true->N8 o=true->∀(n:Nat) (rs:List (List Int)),r=rT rs->Mt.jx n 5 rs->1<=n->n<=4->∃y,bf z=some (c,.name x::y)):=λz u=>by
 have k:("draw ":Str).length=5/\(" ":Str).length=1/\(" 0 ":Str).length=3/\("show ":Str).length=5/\("chance ":Str).length=7/\(" 0":Str).length=2/\("stands ":Str).length=7/\(" 2":Str).length=2/\("mean ":Str).length=5/\("fair ":Str).length=5:=by decide
 have m:Ok "0"/\Ok "2":=⟨IL (by decide),IL (by decide)⟩
 have q:("0":Str)=tx ((0:Nat):Int)/\("2":Str)=tx ((2:Nat):Int):=by decide
 have C:=a.2;have A:=t.2;have B:=l.2;simp only[iZ,C7,B7,or_false] at u;obtain e|e|e|e|e|e:=u
 .have j:=e.trans (S4' (c:="draw") (d:="0") (by decide) (by decide));exact⟨"draw",[r,"0",o],["rule","figure","name"],⟨j,by decide,rfl,Ml a l m.1 t,by decide,by decide⟩,by rw[e];simp only[A9,k];lia,by decide,λa1 a2 n rs d g h i=>⟨_,by rw[j,d,q.1];exact Jk a1 a2 g h i (by decide)⟩⟩
 .have j:=e.trans (S1 (c:="show") (by decide));exact⟨"show",[],[],⟨j,by decide,rfl,mem1 a,by decide,by decide⟩,by rw[e];simp only[A9,k];lia,by decide,λa1 _ _ _ _ _ _ _=>⟨_,by rw[j];exact yY a1⟩⟩
 .have j:=e.trans (S2' (c:="chance") (d:="0") (by decide) (by decide));exact⟨"chance",["0"],["figure"],⟨j,by decide,rfl,xh a m.1,by decide,by decide⟩,by rw[e];simp only[A9,k];lia,by decide,λa1 _ _ _ _ _ _ _=>⟨_,by rw[j,q.1];exact BK a1 (by decide)⟩⟩
 .have j:=e.trans (UE (c:="stands") (d:="2") (by decide) (by decide));exact⟨"stands",[r,"2"],["rule","figure"],⟨j,by decide,rfl,yW a l m.2,by decide,by decide⟩,by rw[e];simp only[A9,k];lia,by decide,λa1 _ n rs d g h i=>⟨_,by rw[j,d,q.2];exact BI (.inl rfl) a1 g h i (by decide)⟩⟩
 .have j:=e.trans (UE (c:="mean") (d:="2") (by decide) (by decide));exact⟨"mean",[r,"2"],["rule","figure"],⟨j,by decide,rfl,yW a l m.2,by decide,by decide⟩,by rw[e];simp only[A9,k];lia,by decide,λa1 _ n rs d g h i=>⟨_,by rw[j,d,q.2];exact BI (.inr rfl) a1 g h i (by decide)⟩⟩
 .have j:=e.trans (S2 (c:="fair") (by decide));exact⟨"fair",[r],["rule"],⟨j,by decide,rfl,xh a l,by decide,by decide⟩,by rw[e];simp only[A9,k];lia,by decide,λa1 _ n rs d g h i=>⟨_,by rw[j,d];exact Jj a1 g h i⟩⟩
def lL (no:Str->List Str):Sp:=λc H Q _=>∃(l:Addr) (x:Int) (b:Bool) (t:Str),c=[.ref l,.str t]/\H l=some (.lst [.int x,.bl b])/\ni x b/\t.length<=60/\∀y∈no t,∀a,cW l b H a->Q (.str y) a
abbrev Ht:Stmt:=top 81
def GO:C6 ["_law_state_here","_law_rule_here","_law_some"] ["_law_state_here","_law_rule_here"] (A0 Ht):=aS
def Qb (F:aU K "_law_no_rule" "_law_no_rule" Ht f fd) (c1:Y1 P w K mg base 1 "_law_take" ["_law_state_here","_law_many"] gr):K6 P w K mg base ee 2 f fd ["_law_state_here","_law_rule_here"] (lL jQ):=by
 refine F.ok GO (λo H Q E h=>?_) (λr A j s H o Q E u h=>?_)
 .obtain⟨l,x,b,t,rfl,_⟩:=h;rfl
 obtain⟨l,x,b,t,rfl,m,d,c,q⟩:=h;refine⟨_,(@m8 _ _ _ _ _ (@F7 _ _ 2 _ _ _ _ GO.nd rfl (B6 rfl) (@S0 _ _ _ _ (@b8 _ _ _ _ _ n9 (@b8 _ _ _ _ _ n9 (@b8 _ _ _ _ _ n9 (@b8 _ _ _ _ _ n9 (@b8 _ _ _ _ _ n9 (@b8 _ _ _ _ _ n9 (@b8 _ _ _ _ _ n9 (@b8 _ _ _ _ _ n9 (@b8 _ _ _ _ _ (@y8 _ _ _ _ _ _ _ _ i8 (pv 1) n9) (@b8 _ _ _ _ _ (@y8 _ _ _ _ _ _ _ _ i8 n9 (pv 1)) (@b8 _ _ _ _ _ (@y8 _ _ _ _ _ _ _ _ i8 (pv 1) n9) (@b8 _ _ _ _ _ (@y8 _ _ _ _ _ _ _ _ i8 (pv 1) n9) (@b8 _ _ _ _ _ (@y8 _ _ _ _ _ _ _ _ i8 n9 (pv 1)) i3 (by rfl)) (by rfl)) (by rfl)) (by rfl)) (by rfl)) (by rfl)) (by rfl)) (by rfl)) (by rfl)) (by rfl)) (by rfl)) (by rfl)) (by rfl))) (by rfl) (by first|exact .inl rfl|exact .inr rfl))
  (@u6 _ _ _ (C8 (@R5 _ _ _ _ _ _ _ U8 (@y8 _ _ _ _ _ _ _ _ bV (pv 2) (@S0 _ _ _ _ (@b8 _ _ _ _ _ n9 (@b8 _ _ _ _ _ (@y8 _ _ _ _ _ _ _ _ i8 (pv 1) n9) i3 (by rfl)) (by rfl)))) (D9 c1 u rfl (@b8 _ _ _ _ _ (pv 0) (@b8 _ _ _ _ _ A7 i3 (by rfl)) (by rfl))) (λ_ _=>rfl))))),?_⟩
 refine bt ?_;refine qG.run (.k (.k (.k (.k (.k (.k (.k (.k (.s (.a (.v rfl c) .c) (.s (.a .c (.v rfl c)) (.s (.a (.v rfl c) .c) (.s (.a (.v rfl c) .c) (.s (.a .c (.v rfl c)) .o))))))))))))) (by show 13<=1000;decide) λp v=>?_;refine qG.cat (.k (.s (.a (.v rfl c) .c) .o)) j3 (by show 15<=1000;decide) rfl λn D B a _=>?_;have g:=(u7.new v).trans B;have e:=g _ _ m;refine⟨_,rfl,l,15,x,b,rfl,e,d,by decide,by decide,λy I J k=>?_⟩;have C:n≠l:=λz=>by rw[z,e] at a;cases a
 have i:y<(jQ t).length:=by show y<15;lia
 exact⟨n,_,_,_,rfl,rfl,.of (Kp.at _ _ C a),Jw (xs:=jQ t) i,q _ (af i) _ (((cW.start m d).same g).go k)⟩
abbrev wJ:Stmt:=top 82
def sk:C6 ["_law_state_here","_law_text","_law_some"] ["_law_state_here","_law_text"] (A0 wJ):=aS
def II (F:aU K "_law_no_urn" "_law_no_urn" wJ f fd) (c1:Y1 P w K mg base 1 "_law_take" ["_law_state_here","_law_many"] gr):K6 P w K mg base ee 2 f fd ["_law_state_here","_law_text"] (lL mS):=by
 refine F.ok sk (λo H Q E h=>?_) (λr A j s H o Q E u h=>?_)
 .obtain⟨l,x,b,t,rfl,_⟩:=h;rfl
 obtain⟨l,x,b,t,rfl,m,d,c,q⟩:=h;refine⟨_,(@m8 _ _ _ _ _ (@F7 _ _ 2 _ _ _ _ sk.nd rfl (B6 rfl) (@S0 _ _ _ _ (@b8 _ _ _ _ _ n9 (@b8 _ _ _ _ _ n9 (@b8 _ _ _ _ _ n9 (@b8 _ _ _ _ _ n9 (@b8 _ _ _ _ _ n9 (@b8 _ _ _ _ _ n9 (@b8 _ _ _ _ _ n9 (@b8 _ _ _ _ _ n9 (@b8 _ _ _ _ _ n9 (@b8 _ _ _ _ _ n9 (@b8 _ _ _ _ _ n9 (@b8 _ _ _ _ _ n9 (@b8 _ _ _ _ _ n9 (@b8 _ _ _ _ _ n9 i3 (by rfl)) (by rfl)) (by rfl)) (by rfl)) (by rfl)) (by rfl)) (by rfl)) (by rfl)) (by rfl)) (by rfl)) (by rfl)) (by rfl)) (by rfl)) (by rfl))) (by rfl) (by first|exact .inl rfl|exact .inr rfl))
  (@m8 _ _ _ _ _ (@F7 _ _ 2 _ _ _ _ sk.nd rfl (B6 rfl) (@y8 _ _ _ _ _ _ _ _ bV (pv 2) (@S0 _ _ _ _ (@b8 _ _ _ _ _ (@y8 _ _ _ _ _ _ _ _ i8 (pv 1) n9) (@b8 _ _ _ _ _ (@y8 _ _ _ _ _ _ _ _ i8 n9 (pv 1)) (@b8 _ _ _ _ _ (@y8 _ _ _ _ _ _ _ _ i8 (pv 1) n9) (@b8 _ _ _ _ _ (@y8 _ _ _ _ _ _ _ _ i8 (pv 1) n9) (@b8 _ _ _ _ _ (@y8 _ _ _ _ _ _ _ _ i8 n9 (pv 1)) (@b8 _ _ _ _ _ (@y8 _ _ _ _ _ _ _ _ i8 (pv 1) n9) i3 (by rfl)) (by rfl)) (by rfl)) (by rfl)) (by rfl)) (by rfl)))) (by rfl) (by first|exact .inl rfl|exact .inr rfl))
  (@u6 _ _ _ (C8 (@R5 _ _ _ _ _ _ _ U8 (pv 2) (D9 c1 u rfl (@b8 _ _ _ _ _ (pv 0) (@b8 _ _ _ _ _ A7 i3 (by rfl)) (by rfl))) (λ_ _=>rfl)))))),?_⟩
 refine bt ?_;refine qG.run (.k (.k (.k (.k (.k (.k (.k (.k (.k (.k (.k (.k (.k (.k .o)))))))))))))) (by show 14<=1000;decide) λp v=>?_;refine bt ?_;refine qG.cat (.s (.a (.v rfl c) .c) (.s (.a .c (.v rfl c)) (.s (.a (.v rfl c) .c) (.s (.a (.v rfl c) .c) (.s (.a .c (.v rfl c)) (.s (.a (.v rfl c) .c) .o)))))) j3 (by show 20<=1000;decide) rfl λn D B a _=>?_;have g:=(u7.new v).trans B;have e:=g _ _ m;refine⟨_,rfl,_,rfl,l,20,x,b,rfl,e,d,by decide,by decide,λy I J k=>?_⟩;have C:n≠l:=λz=>by rw[z,e] at a;cases a
 have i:y<(mS t).length:=by show y<20;lia
 exact⟨n,_,_,_,rfl,rfl,.of (Kp.at _ _ C a),Jw (xs:=mS t) i,q _ (af i) _ (((cW.start m d).same g).go k)⟩
def AL:Sp:=λd H Q _=>∃c r:Str,d=[.str (c++" "++r)]/\32 ∉ c.cps.toList/\(c++" "++r).length<=300/\∀p a,u7 H a->H p=none->a p=some (.lst (([" "++(c++" "++r),c++" "++r++" ",c++" "++(" "++r)]:List Str).map V.str))->Q (.ref p) a
abbrev HF:Stmt:=top 83
def AX:C6 ["_law_line","_law_at","_law_some"] ["_law_line"] (A0 HF):=aS
def Qm (F:aU K "_law_blanks" "_law_blanks" HF f fd):K6 P w K mg base ee 1 f fd ["_law_line"] AL:=by
 refine F.ok AX (λt H Q E h=>?_) (λu A j s H t Q E D h=>?_)
 .obtain⟨c,r,rfl,_⟩:=h;rfl
 obtain⟨c,r,rfl,v,d,q⟩:=h;refine⟨_,(m8 (F7 (i:=1) AX.nd rfl (B6 rfl) (cz E6 kA ya vw (pv 0) (b8 n9 i3)))
  (m8 (F7 (i:=2) AX.nd rfl (B6 rfl) (S0 (b8 (y8 i8 n9 (pv 0)) (b8 (y8 i8 (pv 0) n9) i3))))
  (u6 (C8 (y8 bV (pv 2) (S0 (b8 (y8 i8 (y8 i8 (Y9 fK (pv 0) aY (aX (pv 1))) n9) (Y9 fK (pv 0) (aX (pv 1)) aY)) i3))))))),?_⟩
 have k:c.cps.toList.length=c.length:=u9;have ll:(c++" "++r).length=c.length+1+r.length:=by rw[A9,A9];rfl
 have g:(c++" "++r).cps.toList=c.cps.toList++32::r.cps.toList:=by rw[kZ,kZ,tY,U5];rfl
 have y:C9 (c++" "++r) " " 0 (c++" "++r).length 1=c.length::[]:=by
  rw[tY];refine EF ?_ λi I=>?_
  .rw[<- tY,g,jf (by lia),k,UR];rfl
  .rw[<- tY,g,jC (by lia)];exact λz=>v (r0 z)
 have e1:O7 (c++" "++r) none (some ((c.length:Nat):Int))=c:=lK (by rw[yw (by lia),g,<- k,List.take_left]);have e2:O7 (c++" "++r) (some ((c.length:Nat):Int)) none=" "++r:=lK (by rw[GL (by lia),g,<- k,List.drop_left,kZ,tY];rfl);refine⟨_,rfl,rfl,_,_,_,_,rfl,rfl,y,?_⟩;refine kh ?_;refine bt ?_;refine qG.run (.s (.a .c (.v rfl d)) (.s (.a (.v rfl d) .c) .o)) (by show 2<=1000;decide) λp l=>?_;refine qG.cat (.s (.a (.a (.to (.v rfl d) λH R r=>⟨_,rfl,_,rfl,r⟩) .c) (.fr (.v rfl d) λH R r=>⟨_,rfl,_,rfl,r⟩)) .o) j3 (by show 3<=1000;decide) rfl λm B C a n=>?_;rw[e1,e2] at a;refine q m B ((u7.new l).trans C) ?_ a;cases e:H m with
 | none=>rfl
 | some o=>rw[u7.new l _ _ e] at n;cases n
end
def TB (a:TA) (σ:L2.St) (ys:List Str):Prop:=qG a σ ys/\∀y∈ys,Bad y
theorem TB.o {σ:L2.St}:TB rS σ []:=⟨qG.o,by simp⟩
theorem TB.s {σ:L2.St}{m:Nat}{a:TE}{c:TA}{x:Str}{ys:List Str} (h:Tx m a σ x) (d:bf x=none) (t:TB c σ ys) (e:m<=400:=by decide):TB (kM a c) σ (x::ys):=⟨.s h t.1,ZS.mpr ⟨⟨d,j9 h.2 e⟩,t.2⟩⟩
def cW.old {l p:Addr}{b:Bool}{a:Hp} (s:cW l b H a) (h:a p=none):H p=none:=by
 cases e:H p with
 | none=>rfl
 | some o=>rw[s.1 _ _ (s.ne h).symm e] at h;cases h
def LS (l:Addr) (b:Bool) (d:Hp) (W:List (Addr × HO)) (N:Nat) (a:Hp) (p:Addr):Prop:=cW l b d a/\d p=none/\(∃c:List Str,a p=some (.lst (c.map V.str))/\c.length<=N/\∀x∈c,Bad x)/\∀q∈W,a q.1=some q.2/\q.1≠p
section
variable {K:m9}{l p:Addr}{b:Bool}{H0 Hx H':Hp}{W:List (Addr × HO)}{N M m i:Nat}{ys:List Str}{σ:L2.St}{ta:TA}{te:TE}{u:TS}{D:oK}{x:Str}
theorem LS.same (h:LS l b H0 W N Hx p) (g:u7 Hx H'):LS l b H0 W N H' p:=let ⟨d,e,⟨f,j,k⟩,a⟩:=h;⟨d.same g,e,⟨f,g _ _ j,k⟩,λq c=>⟨g _ _ (a q c).1,(a q c).2⟩⟩
def LS.sta (h:LS l b H0 W N Hx p) (s:cW l b Hx H') (j:∀q∈W,q.1≠l):LS l b H0 W N H' p:=let ⟨e,k,⟨f,c,n⟩,g⟩:=h;by
 have o:p≠l:=λz=>by
  obtain⟨_,x,t,_⟩:=e;rw[z,t] at c;injection c with c
  injection c with c
  cases f with
  | nil=>cases c
  | cons a r=>cases c
 exact⟨e.trans s,k,⟨f,s.1 _ _ o c,n⟩,λq d=>⟨s.1 _ _ (j q d) (g q d).1,(g q d).2⟩⟩
def LS.watch {pl:Addr}{o:HO} (h:LS l b H0 W N Hx p) (c:Hx pl=none):LS l b H0 ((pl,o)::W) N (C3 Hx pl o) p:=by have a:=h.same (u7.new c (o:=o));obtain⟨_,_,⟨g,d,_⟩,_⟩:=h;exact⟨a.1,a.2.1,a.2.2.1,λq f=>(C7.mp f).elim (λe=>by rw[e];exact⟨j3,λz=>by have z:pl=p:=z;rw[z,d] at c;cases c⟩) (a.2.2.2 q)⟩
def LS.drop {q:Addr × HO} (h:LS l b H0 (q::W) N Hx p):LS l b H0 W N Hx p:=⟨h.1,h.2.1,h.2.2.1,λr a=>h.2.2.2 r (g0 _ a)⟩
def LS.le (h:LS l b H0 W N Hx p) (a:N<=M):LS l b H0 W M Hx p:=let ⟨c,d,⟨e,f,g,j⟩,k⟩:=h;⟨c,d,⟨e,f,j9 g a,j⟩,k⟩
def LS.rcat {q:Addr}{Q:VK} (h:LS l b H0 W N Hx p) (g:Hx q=some (.lst (ys.map V.str))) (j:∀y∈ys,Bad y) (v:N+ys.length<=1000) (k:∀z H',LS l b H0 W (N+ys.length) H' z->Q (.ref z) H'):HV (.ref p) (.ref q) Hx Q:=by have w:=h;obtain⟨c,A,⟨n,o,B,s⟩,d⟩:=h;refine⟨p,q,_,_,rfl,rfl,o,g,by rw[d8,d8];exact sz (by lia),λz a=>k z _ ⟨c.new a,?_,⟨n++ys,by rw[j3,v9],by rw[y9];lia,λx t=>(ZX.mp t).elim (s x) (j x)⟩,λr f=>⟨u7.new a _ _ (d r f).1,λe=>by rw[<- e,(d r f).1] at a;cases a⟩⟩⟩;exact c.old a
def LS.add {Q:VK} (h:LS l b H0 W N Hx p) (t:TB ta σ ys) (a:N+ys.length<=1000) (k:∀z H',LS l b H0 W (N+ys.length) H' z->Q (.ref z) H'):Ei ta σ Hx λy c=>HV (.ref p) y c Q :=
 t.1.run (by lia) λq d=>(h.same (u7.new d)).rcat j3 t.2 a k
theorem LS.set (h:LS l b H0 W N Hx p) (a:σ[i]?=some (some (.ref p))) (t:TB ta σ ys) (c:N+ys.length<=1000) (k:∀z H',LS l b H0 W (N+ys.length) H' z->u D (σ.set i (some (.ref z))) H'):pf (GB (Eh HV (rR i) (Ei ta)) (V5 i)) u D σ Hx:=⟨_,a,h.add t c k⟩
def LS.app (h:LS l b H0 W N Hx p) (v:σ[i]?=some (some (.ref p))) (t:Tx m te σ x) (w:bf x=none) (J:N+1<=1000) (A:m<=400:=by decide) (k:∀H',LS l b H0 W (N+1) H' p->D.nx σ H'):NC (tBM K "list" CM (rR i) (kM te rS)) D σ Hx:=by
 obtain⟨f,q,⟨s,d,B,C⟩,g⟩:=h;have E:p≠l:=λz=>by
  obtain⟨_,x,I,_⟩:=f;rw[z,I] at d;injection d with d
  injection d with d
  cases s with
  | nil=>cases d
  | cons a r=>cases d
 refine⟨_,v,.inl ⟨rfl,_,.of d⟩,t.1 _ _ ⟨p,_,_,rfl,rfl,d,by rw[d8];exact P3 (show _<=999 by lia) (by decide),k _ ⟨⟨λc o nc e=>?_,?_⟩,q,⟨s++[x],by rw[j3,v9];rfl,by rw[y9];exact Ga B 1,λy j=>(ZX.mp j).elim (C y) λe=>by rw[ZZ.mp e];exact⟨w,j9 t.2 A⟩⟩,λr n=>⟨by rw[t9 (g r n).2];exact(g r n).1,(g r n).2⟩⟩⟩⟩
 .rw[t9 (λz=>by rw[z,q] at e;cases e)];exact f.1 _ _ nc e
 .obtain⟨_,y,j,ok⟩:=f;exact⟨y,by rw[t9 E.symm];exact j,ok⟩
end
def lst2 {a c:TE}{Q:VK} (h:a σ H λx e=>c σ e λy d=>(2<=j6/\∀p,d p=none->Q (.ref p) (C3 d p (.lst [x,y])))):Ei (kM a (kM c rS)) σ H Q:=h
def opT {r:R2}{a c:TE}{Q:VK} (h:a σ H λx d=>c σ d λy e=>r x y e Q):Eh r a c σ H Q:=h
def uK:(("draw ":Str)="draw"++" "/\("stands ":Str)="stands"++" "/\("mean ":Str)="mean"++" "/\("fair ":Str)="fair"++" "/\("chance ":Str)="chance"++" "/\("urn ":Str)="urn"++" "/\("kept ":Str)="kept"++" ")/\(" 0 ":Str)=" "++("0"++" ")/\(" 1":Str)=" "++"1":=by decide
def JG:fA "draw"=some (["name","rule","figure","name"]:List Str)/\32 ∉ ("draw":Str).cps.toList:=by decide
def NQ:fA "stands"=some (["name","rule","figure"]:List Str)/\32 ∉ ("stands":Str).cps.toList:=by decide
def NR:fA "mean"=some (["name","rule","figure"]:List Str)/\32 ∉ ("mean":Str).cps.toList:=by decide
def Tv:fA "fair"=some (["name","rule"]:List Str)/\32 ∉ ("fair":Str).cps.toList:=by decide
def Tw:fA "chance"=some (["name","figure"]:List Str)/\32 ∉ ("chance":Str).cps.toList:=by decide
def Dm:fA "urn"=some (["name","urn"]:List Str)/\32 ∉ ("urn":Str).cps.toList:=by decide
section
variable {P:j0}{w:w5}{K:m9}{mg:Str->Option b9}{base:Heap}{f:Addr}{fd:C5}
def AJ:Sp:=λe H Q _=>∃(l:Addr) (x:Int) (b:Bool) (a bad lost:Str) (n:Nat) (ns:List Int) (c:List (List Int)),e=[.ref l,.str a,.str bad,.str lost,.str (nT ns),.str (rT c)]/\H l=some (.lst [.int x,.bl b])/\ni x b/\N8 a=true/\zP bad/\N8 lost=true/\Mt.jW n 20 ns/\Mt.jx n 5 c/\1<=n/\n<=4 /\
 ∀p d,LS l b H [] 200 d p->Q (.ref p) d
abbrev HD:Stmt:=top 84
def iT:C6 ["_law_state_here","_law_name_here","_law_bad","_law_lost","_law_text","_law_rule_here","_law_lines","_law_none","_law_one","_law_word","_law_line"] ["_law_state_here","_law_name_here","_law_bad","_law_lost","_law_text","_law_rule_here"] (A0 HD):=aS
def Ql (F:aU K "_law_bad_lines" "_law_bad_lines" HD f fd) (c1:Y1 P w K mg base 2 "_law_no_urn" ["_law_state_here","_law_text"] (lL mS)) (c2:Y1 P w K mg base 2 "_law_named" ["_law_name_here","_law_other","_law_rule_here"] wk) (c3:Y1 P w K mg base 2 "_law_no_rule" ["_law_state_here","_law_rule_here"] (lL jQ)) (c4:Y1 P w K mg base 2 "_law_blanks" ["_law_line"] AL):K6 P w K mg base ee 3 f fd ["_law_state_here","_law_name_here","_law_bad","_law_lost","_law_text","_law_rule_here"] AJ:=by
 refine F.ok iT (λvs H Q E h=>?_) (λan A a7 s H vs Q E O h=>?_)
 .obtain⟨l,x,b,a,bad,lost,n,ns,d,rfl,_⟩:=h;rfl
 obtain⟨l,x,b,a,bad,lost,n,ns,d,rfl,hl,a8,R,g,a9,hU,hR,n1,n4,q⟩:=h;refine⟨_,(m8 (F7 (i:=6) iT.nd rfl (B6 rfl) (S0 (b8 (y8 i8 (y8 i8 (y8 i8 n9 (pv 2)) n9) (pv 4)) (b8 (y8 i8 (y8 i8 (y8 i8 n9 (pv 1)) n9) (D9 c1 O rfl (b8 (pv 0) (b8 (pv 4) i3)))) i3))))
  (m8 (F7 (i:=6) iT.nd rfl (B6 rfl) (y8 bV (pv 6) (D9 c2 O rfl (b8 (pv 2) (b8 (pv 1) (b8 (pv 5) i3))))))
  (m8 (F7 (i:=7) iT.nd rfl (B6 rfl) (D9 c3 O rfl (b8 (pv 0) (b8 (pv 5) i3))))
  (m8 (eQ M4 rfl (cQ (S0 (b8 (pv 1) (b8 (pv 3) i3)))) (U6 (i:=8) iT.nd rfl (B6 rfl))
  (m8 (aw (cz O1 Q7 Q6 eT (pv 6) (b8 (y8 i8 (y8 i8 (y8 i8 (y8 i8 (y8 i8 n9 (pv 8)) n9) (pv 5)) n9) (pv 2)) i3)))
  (m8 (aw (cz O1 Q7 Q6 eT (pv 6) (b8 (y8 i8 (y8 i8 (y8 i8 (y8 i8 (y8 i8 n9 (pv 8)) n9) (pv 7)) n9) (pv 1)) i3)))
  (m8 (F7 (i:=6) iT.nd rfl (B6 rfl) (y8 bV (pv 6) (S0 (b8 (y8 i8 (y8 i8 (y8 i8 (y8 i8 n9 (pv 8)) n9) (pv 7)) n9) (b8 (y8 i8 (y8 i8 (y8 i8 (y8 i8 n9 (pv 8)) n9) (pv 7)) n9) i3)))))
  (m8 (aw (cz O1 Q7 Q6 eT (pv 6) (b8 (y8 i8 (y8 i8 (y8 i8 n9 (pv 8)) n9) (pv 7)) i3)))
  (u6 (eQ M4 rfl (cQ (S0 (b8 n9 (b8 n9 (b8 n9 (b8 n9 (b8 n9 (b8 n9 i3)))))))) (U6 (i:=9) iT.nd rfl (B6 rfl))
  (m8 (F7 (i:=6) iT.nd rfl (B6 rfl) (y8 bV (pv 6) (S0 (b8 (y8 i8 (y8 i8 (y8 i8 n9 (pv 8)) n9) (pv 9)) (b8 (y8 i8 (y8 i8 (y8 i8 (y8 i8 (y8 i8 n9 (pv 8)) n9) (pv 5)) n9) (pv 9)) i3)))))
  (m8 (aw (cz O1 Q7 Q6 eT (pv 6) (b8 (y8 i8 (y8 i8 (y8 i8 (y8 i8 (y8 i8 (y8 i8 (y8 i8 n9 (pv 8)) n9) (pv 5)) n9) (pv 9)) n9) (pv 1)) i3)))
  (u6 (aw (cz O1 Q7 Q6 eT (pv 6) (b8 (y8 i8 (y8 i8 (y8 i8 (y8 i8 (y8 i8 n9 (pv 8)) n9) (pv 5)) n9) (pv 9)) i3)))))))))))))
  (m8 (eQ M4 rfl (cQ (y8 bV (D9 c2 O rfl (b8 (pv 1) (b8 (pv 1) (b8 (pv 5) i3)))) (S0 (b8 (y8 i8 (y8 i8 (y8 i8 n9 (pv 1)) n9) (pv 4)) i3)))) (U6 (i:=10) iT.nd rfl (B6 rfl))
  (u6 (F7 (i:=6) iT.nd rfl (B6 rfl) (y8 bV (y8 bV (pv 6) (D9 c4 O rfl (b8 (pv 10) i3))) (S0 (b8 (y8 i8 (pv 10) n9) i3))))))
  (u6 (C8 (y8 bV (pv 6) (S0 (b8 n9 (b8 n9 (b8 (y8 i8 n9 (pv 1)) i3)))))))))))),?_⟩
 have kn:=vq R;have J:=IM g (by decide);have M:=SW hU n4;have o:=PY hR n4;have k0:Ok "0"/\Ok "1":=⟨IL (by decide),IL (by decide)⟩
 refine bt ?_;have tA:Tx _ _ [some (.ref l),some (.str a),some (.str bad),some (.str lost),some (.str (nT ns)),some (.str (rT d)),none,none,none,none,none] ("urn "++bad++" "++nT ns):=.a (.a (.a .c (.v (i:=2) rfl J.2)) .c) (.v (i:=4) rfl M.2);have tB:Tx _ _ [some (.ref l),some (.str a),some (.str bad),some (.str lost),some (.str (nT ns)),some (.str (rT d)),none,none,none,none,none] ("urn "++a++" "):=.a (.a .c (.v (i:=1) rfl kn.2)) .c;refine lst2 (tA.1 _ _ (opT (tB.1 _ _ ?_)));refine⟨_,rfl,_,rfl,l,x,b,nT ns,rfl,hl,a8,M.2,λz hz H1 s1=>?_⟩;have zb:=Bv hU n1 n4 z hz;have lA:=tA.2;have lB:=tB.2;have lz:=zb.2.2;refine⟨_,_,rfl,rfl,sz (by lia),(by show 2<=j6;decide),λp hp=>?_⟩;have L0:LS l b H [] 2 (C3 H1 p (.lst [.str ("urn "++bad++" "++nT ns),.str ("urn "++a++" "++z)])) p:=⟨s1.new hp,s1.old hp,⟨["urn "++bad++" "++nT ns,"urn "++a++" "++z],j3,i4 _,xh ⟨fM Dm (S2 uK.1.2.2.2.2.2.1) (xh J M) 0 (nmB g.1),by lia⟩ ⟨fM Dm (S2 uK.1.2.2.2.2.2.1) (xh kn (IM zb (by decide))) 1 (urB zb.1),by rw[A9];lia⟩⟩,by simp⟩
 try dsimp only
 generalize C3 H1 p (.lst [.str ("urn "++bad++" "++nT ns),.str ("urn "++a++" "++z)])=H2 at L0;refine bt ⟨_,rfl,_,rfl,_,rfl,_,rfl,bad,a,rT d,rfl,J.2,kn.2,o.2,λp2 H3 S _ r=>(L0.same S).rcat r (λy c=>by obtain⟨_,_,_,D,k,_⟩:=sR J kn o y c;exact⟨D.bad g.1,by lia⟩) (by show 2+6<=1000;decide) λp3 H4 T=>?_⟩
 have U:LS l b H [] 8 H4 p3:=T;obtain⟨_,x4,ab,ac⟩:=id U.1;refine bt ⟨_,rfl,_,rfl,l,x4,b,rT d,rfl,ab,ac,o.2,λz2 X H5 s5=>?_⟩;have t:=yT hR n1 n4 z2 X;have kz:=IM t (by decide);have L5:=U.sta s5 (by simp);refine⟨_,rfl,_,rfl,(by show 2<=j6;decide),λN Y=>⟨N,rfl,⟨_,.of j3⟩,?_⟩⟩;have L6:=L5.watch (o:=.lst [.str a,.str lost]) Y;generalize C3 H5 N (.lst [.str a,.str lost])=H6 at L6;clear L0 T U L5 Y s5 hp zb lA lB lz tA tB s1 hz X;refine gY (K:=K) (a:=N) (xs:=[.str a,.str lost]) (λj σ m=>∃p Z u,LS l b H [(N,.lst [.str a,.str lost])] (8+29*j) m p/\σ=[some (.ref l),some (.str a),some (.str bad),some (.str lost),some (.str (nT ns)),some (.str (rT d)),some (.ref p),some (.str z2),Z,u,none])
  ⟨p3,none,none,L6,rfl⟩ (λj σ m _ h=>by obtain⟨p,Z,u,L,_⟩:=h;exact .of (L.2.2.2 _ (ZZ.mpr rfl)).1) (λj y σ m c h=>?_) (λσ m h=>?_)
 .obtain⟨p,Z,u,L,rfl⟩:=h;have j2:j<2:=(ZW.mp c).1;obtain⟨one,rfl,a0⟩:∃one,y=.str one/\N8 one=true:=by
   match j,c with
   | 0,c=>cases c;exact⟨a,rfl,R⟩
   | 1,c=>cases c;exact⟨lost,rfl,a9⟩
  have k1:=vq a0;dsimp only[V5];refine L.app rfl (.a (.a (.a (.a (.a .c (.v (i:=8) rfl k1.2)) .c) (.v (i:=5) rfl o.2)) .c) (.v (i:=2) rfl J.2)) (fM JG (S4' uK.1.1 uK.2.1) (Ml k1 o k0.1 J) 3 (nmB g.1)) (by lia) (k:=λH7 L7=>?_);refine kh ?_;refine L7.app rfl (.a (.a (.a (.a (.a .c (.v (i:=8) rfl k1.2)) .c) (.v (i:=7) rfl kz.2)) .c) (.v (i:=1) rfl kn.2)) (fM JG (S4' uK.1.1 uK.2.1) (Ml k1 kz k0.1 kn) 1 (UB t.1)) (by lia) (k:=λH8 B=>?_);refine kh ?_;refine B.set rfl (.s (.a (.a (.a (.a .c (.v (i:=8) rfl k1.2)) .c) (.v (i:=7) rfl kz.2)) .c) (fM NQ (UE uK.1.2.1 uK.2.2) (yW k1 kz k0.2) 1 (UB t.1)) (.s (.a (.a (.a (.a .c (.v (i:=8) rfl k1.2)) .c) (.v (i:=7) rfl kz.2)) .c) (fM NR (UE uK.1.2.2.1 uK.2.2) (yW k1 kz k0.2) 1 (UB t.1)) .o)) (by show _+2<=1000;lia) λp5 H9 L9=>?_;refine L9.app rfl (.a (.a (.a .c (.v (i:=8) rfl k1.2)) .c) (.v (i:=7) rfl kz.2)) (fM Tv (S2 uK.1.2.2.2.1) (xh k1 kz) 1 (UB t.1)) (by show _+2+1<=1000;lia) (k:=λHa La=>?_);refine kh ?_;have La:LS l b H [(N,.lst [.str a,.str lost])] (8+29*j+5) Ha p5:=La;refine⟨(by show 6<=j6;decide),λpw a1=>⟨pw,rfl,⟨_,.of j3⟩,?_⟩⟩;have Lb:=La.watch (o:=.lst ((["10","01","-1","+1","x",""]:List Str).map V.str)) a1;have wf:∀w∈(["10","01","-1","+1","x",""]:List Str),(!w.cps.toList.contains 32&&decide (w.length<=60))=true/\NT w=none:=by decide
  have e6:([.str "10",.str "01",.str "-1",.str "+1",.str "x",.str ""]:List V)=(["10","01","-1","+1","x",""]:List Str).map V.str:=rfl;rw[e6];generalize a2:(["10","01","-1","+1","x",""]:List Str)=WL at Lb wf;have ad:WL.length=6:=by rw[<- a2];rfl
  generalize C3 Ha pw (.lst (WL.map V.str))=Hb at Lb;clear a2 e6 La L9 B L7 L a1;refine gY (K:=K) (a:=pw) (xs:=WL.map V.str) (λi σ m=>∃p u,LS l b H [(pw,.lst (WL.map V.str)),(N,.lst [.str a,.str lost])] (8+29*j+5+4*i) m p/\σ=[some (.ref l),some (.str a),some (.str bad),some (.str lost),some (.str (nT ns)),some (.str (rT d)),some (.ref p),some (.str z2),some (.str one),u,none])
   ⟨p5,u,Lb,rfl⟩ (λi σ m _ h=>by obtain⟨p,u,L,_⟩:=h;exact .of (L.2.2.2 _ f7).1) (λi y σ m c h=>?_) (λσ m h=>?_)
  .obtain⟨p,u,L,rfl⟩:=h;rw[w6] at c;obtain⟨wd,a3,rfl⟩:=Zt.mp c;have i6:=(ZW.mp a3).1;obtain⟨al,hw⟩:=wf wd (r0 a3);have I:=IL al;dsimp only[V5];refine L.set rfl (.s (.a (.a (.a .c (.v (i:=8) rfl k1.2)) .c) (.v (i:=9) rfl I.2)) (fM Tw (S2 uK.1.2.2.2.2.1) (xh k1 I) 1 (UD hw)) (.s (.a (.a (.a (.a (.a .c (.v (i:=8) rfl k1.2)) .c) (.v (i:=5) rfl o.2)) .c) (.v (i:=9) rfl I.2)) (fM NQ (S3 uK.1.2.1) (yW k1 o I) 2 (UD hw)) .o)) (by show _+2<=1000;lia) λp6 H7 L7=>?_;refine L7.app rfl (.a (.a (.a (.a (.a (.a (.a .c (.v (i:=8) rfl k1.2)) .c) (.v (i:=5) rfl o.2)) .c) (.v (i:=9) rfl I.2)) .c) (.v (i:=1) rfl kn.2)) (fM JG (S4 uK.1.1) (Ml k1 o I kn) 2 (UD hw)) (by show _+2+1<=1000;lia) (k:=λH8 B=>?_);refine kh ?_;refine B.app rfl (.a (.a (.a (.a (.a .c (.v (i:=8) rfl k1.2)) .c) (.v (i:=5) rfl o.2)) .c) (.v (i:=9) rfl I.2)) (fM NR (S3 uK.1.2.2.1) (yW k1 o I) 2 (UD hw)) (by show _+2+1+1<=1000;lia) (k:=λH9 L9=>⟨p6,_,L9.le (by show _+2+1+1<=_;lia),rfl⟩)
  .obtain⟨p,u,L,rfl⟩:=h;rw[d8,ad] at L;exact⟨p,_,_,L.drop.le (by lia),rfl⟩
 obtain⟨p,Z,u,L,rfl⟩:=h;have L:=L.drop.le (M:=66) (by show 8+29*2<=66;decide);have zl:∀y∈iZ a a (rT d)++["urn "++a++" "++nT ns],y.length<=250/\∃v ws C,Ln a y v ws C:=λy c=>by
  obtain e|e:=ZX.mp c
  .obtain⟨v,ws,C,D,k,_⟩:=sR kn kn o y e;exact⟨k,v,ws,C,D⟩
  .rw[ZZ.mp e];refine⟨?_,"urn",[nT ns],["urn"],S2 uK.1.2.2.2.2.2.1,Dm.1,rfl,xh kn M,Dm.2,by decide⟩;have:=kn.2;have:=M.2;have l4:("urn ":Str).length=4/\(" ":Str).length=1:=by decide
   simp only[A9,l4];lia
 refine⟨_,rfl,_,rfl,_,rfl,a,a,rT d,rfl,kn.2,kn.2,o.2,λp2 H3 S _ r=>?_⟩;refine qG.run (.s (.a (.a (.a .c (.v (i:=1) rfl kn.2)) .c) (.v (i:=4) rfl M.2)) .o) (by show 1<=1000;decide) λq1 a4=>⟨p2,q1,_,_,rfl,rfl,u7.new a4 _ _ r,j3,(by show 6+1<=j6;decide),λpz am=>⟨pz,rfl,⟨_,.of j3⟩,?_⟩⟩
 have B:=((L.same S).same (u7.new a4 (o:=.lst (["urn "++a++" "++nT ns].map V.str)))).watch (o:=.lst ((iZ a a (rT d)++["urn "++a++" "++nT ns]).map V.str)) am;rw[<- v9];generalize C3 (C3 H3 q1 (.lst (["urn "++a++" "++nT ns].map V.str))) pz (.lst ((iZ a a (rT d)++["urn "++a++" "++nT ns]).map V.str))=H8 at B;have a5:(iZ a a (rT d)++["urn "++a++" "++nT ns]).length=7:=rfl;generalize iZ a a (rT d)++["urn "++a++" "++nT ns]=ZL at zl a5 B;refine gY (K:=K) (a:=pz) (xs:=ZL.map V.str) (λi σ m=>∃p oa,LS l b H [(pz,.lst (ZL.map V.str))] (66+4*i) m p/\σ=[some (.ref l),some (.str a),some (.str bad),some (.str lost),some (.str (nT ns)),some (.str (rT d)),some (.ref p),some (.str z2),Z,u,oa])
  ⟨p,none,B,rfl⟩ (λi σ m _ h=>by obtain⟨p,oa,L,_⟩:=h;exact .of (L.2.2.2 _ f7).1) (λi y σ m c h=>?_) (λσ m h=>?_)
 .clear L B;obtain⟨p,oa,L,rfl⟩:=h;rw[w6] at c;obtain⟨ln,a6,rfl⟩:=Zt.mp c;have i7:=(ZW.mp a6).1;obtain⟨k,v,ws,C,D⟩:=zl ln (r0 a6);obtain⟨e,b1,b2,b3,b4⟩:=D.bl;have l1:(" ":Str).length=1:=by decide
  dsimp only[V5];refine⟨_,rfl,_,rfl,v,_,by rw[<- e],D.c,by rw[<- e];lia,λp2 H3 S _ r=>(L.same S).rcat r (yW ⟨by rw[<- e];exact b1,by rw[<- e,A9];lia⟩ ⟨by rw[<- e];exact b2,by rw[<- e,A9];lia⟩ ⟨b3,?_⟩) (by show _+3<=1000;lia) λp3 H4 U=>U.add (.s (.a (.v (i:=10) rfl k) .c) b4 .o) (by show _+3+1<=1000;lia) λp4 H5 L5=>⟨p4,_,L5.le (by show _+3+1<=_;lia),rfl⟩⟩;have:=Zu Str.length e;simp only[A9] at this ⊢;lia
 .obtain⟨p,oa,L,rfl⟩:=h;rw[d8,a5] at L;refine⟨_,rfl,L.add (.s .c (by decide) (.s .c (by decide) (.s (.a .c (.v (i:=1) rfl kn.2)) ?_ .o))) (by show _+3<=1000;decide) λz H' D=>q z H' (D.drop.le (by show _+3<=200;decide))⟩;rw[S1 uK.1.2.2.2.2.2.2];exact tm (fos:=[]) (by decide) (by decide) (λy c=>by rw[ZZ.mp c];exact kn.1) (by simp)
end
end G
namespace Mq
open PySem PySem.Spec L2 Mt Md
def QN {n k:Nat} (a:1<=n) (b:n<=4) (c:k<=6):(Fg n k).length<128:=by
 have key:∀n∈[1,2,3,4],∀k∈[0,1,2,3,4,5,6],(Fg n k).length<128:=by decide
 refine key n ?_ k ?_
 .have:n=1 ∨ n=2 ∨ n=3 ∨ n=4:=by lia
  simp;lia
 .simp;lia
def Fh {n k:Nat}{rs:List (List Int)}{u:List Int} (b:jx n 5 rs) (i:1<=n) (d:n<=4) (f:jW n 20 u) (g:k<=6):(ng rs k [(u,1)]).length<128:=by
 have h:=(vI b d f k g).2.1;unfold xV at h;have:=IX (m:=(Fg n k).map (Kz u rs)) h λa j=>by obtain⟨p,l,e⟩:=ZY.mp j;obtain⟨c,m,e2⟩:=Dy b f.len l;exact ZY.mpr ⟨c,m,by rw[<- e,e2]⟩
 rw[d8,d8] at this;have:=QN i d g;lia
end Mq
namespace G
open PySem PySem.Spec PyProof.Rows L2 Mt Md Mq
abbrev lq:Str:=(("law":Str)++".<locals>.")++"<lambda>"
def Ua (X:Cx) (a:fE) (body:Expr) (scope:O9) (H:Hp) (f:Addr):Prop:=∃c b,H f=some (KN (Jp X a body scope c b))/\DH (zd X) H c
section
variable {X:Cx}{params:fE}{body:Expr}{scope:O9}{H H':Hp}{f0 T p:Addr}
def Dg {A:L2.St}{f:Hp}{N:List Str}{ix:List (Option Nat)}{k i0:Nat}{c:Nat->Addr}{Q:VK}
  (s:Ah X) (l:tZ X A H f) (C:Ua X params body scope H f0) (b:aZ scope X.env=true) (k1:scope.kind=.function) (k2:scope.isCoroutine=false) (k3:scope.isGenerator=false) (k4:∀x∈scope.names,x.2≠.cell) (D:iX scope X.N N ix=true) (E:i0<10)
  (v:∀d i,mC (W.kla_fn "<lambda>" (zd X) params body scope (Y0 X.env scope.names []) ((X.mg "__name__").getD .none) (.ref d) i) ⟨[],[]⟩=pure [])
  (m:∀(d:Addr) (u:A3) (a:List Env) (s':d9) (B:XK) (I:VK),bD k (u.deeper (rH (zd X) scope s'.heap.objs.size f0 (.ref d) (Y0 X.env scope.names [])))->u7 H (eS (Y0 X.env scope.names []) f)->(∀j,u7 (eS (Y0 X.env scope.names []) f) j->B (.ref (c i0)) none j) ->
   ∃t,PE (vG X.prog X.w X.K X.mg X.base N (zd X) scope f0 (.ref d) (Y0 X.env scope.names []) u a s' (eS (Y0 X.env scope.names []) f) B) body t/\t (cu ix A) (eS (Y0 X.env scope.names []) f) I)
  (q:∀H',u7 f H'->Q (.int i0) H'):jI X.prog X.w X.K X.mg X.base (k+1) c [.ref f0] f Q E0:=by
 obtain⟨d,i,n,J,w,K,y,o,r⟩:=C;refine⟨f0,Su X.prog X.w X.K X.mg X.base k f0 d _ _ _ _ _ _ _ _ N,_,_,some i0,rfl,l.same _ _ n,rfl,v d i,fnL (s.lsc b k1 k2 k3 k4) (λ_ _ _ _ h=>h),(λM e=>by cases e;exact E),λO P L=>?_,q⟩;refine⟨rfl,l.same _ _ n,⟨J,w,K,l.same _ _ y,o,r⟩,s.celk b l,_,s.st b l D,λu a s' z=>?_⟩;exact m d u a s' _ _ z (l.inner s b) λj g=>L _ (LY g)
end
theorem KU.any {H:Hp}{x:Str}:∀{U:List (Str × List Int)}{kvs:List (O0 × V)},KU H U kvs->(kvs.any λb=>decide (b.1=B8 x))=U.any λr=>decide (r.1=x)
 | [],kvs,h=>by rw[show kvs=[] from h];rfl
 | (y,ns)::U,_,⟨a,r,e,_,_,c⟩=>by rw[e,bS,bS,KU.any c];congr 1;exact decide_eq_decide.mpr ⟨λz=>by injection z,λz=>by rw[show y=x from z]⟩
theorem KU.snoc {H:Hp}{x:Str}{a:Addr}{ns:List Int} (c:H a=some (.tup (ns.map V.int))) (d:aO 20 (DI ns)=true):∀{U:List (Str × List Int)}{kvs:List (O0 × V)},KU H U kvs->KU H (U++[(x,ns)]) (kvs++[(B8 x,.ref a)])
 | [],kvs,h=>by rw[show kvs=[] from h];exact⟨a,[],rfl,c,d,rfl⟩
 | (y,j)::U,_,⟨b,r,e,f,g,i⟩=>by rw[e];exact⟨b,_,rfl,f,g,KU.snoc c d i⟩
theorem KU.but {H:Hp}{m:Addr}{o:HO} (b:∀d,H m≠some (.tup d)):∀{U:List (Str × List Int)}{kvs:List (O0 × V)},KU H U kvs->KU (C3 H m o) U kvs
 | [],_,h=>h
 | (_,_)::_,_,⟨a,r,e,c,f,g⟩=>⟨a,r,e,by rw[t9 (λz=>b _ (z ▸ c))];exact c,f,KU.but b g⟩
variable {H:Hp}
def zu {q:Str}{T m:Addr}{k:List (O0 × V)}{o:HO} (h:nu q T H) (d:H m=some (.dK k)):nu q T (C3 H m o):=by obtain⟨f,a,g,i⟩:=h;refine⟨f,by rw[t9 (λz=>by rw[z,d] at a;cases a)];exact a,g,λb v e=>?_⟩;obtain⟨c,j,l,t,e1,e2,e3,e4⟩:=i b v e;exact⟨c,j,l,t,e1,by rw[t9 (λz=>by rw[z,d] at e2;cases e2)];exact e2,e3,e4⟩
def DD {K:m9}{m a:Addr}{xs:List V}{k:List (O0 × V)}{o:HO} (b:H m=some (.dK k)) (h:jc K H a xs):jc K (C3 H m o) a xs:=by
 obtain(h|⟨c,h⟩)|h:=h
 .exact .inl (.inl (by rw[t9 (λz=>by rw[z,b] at h;cases h)];exact h))
 .exact .inl (.inr ⟨c,by rw[t9 (λz=>by rw[z,b] at h;cases h)];exact h⟩)
 .exact .inr h
def Kb {K:m9}{a:Addr}{H':Hp}{xs:List V} (g:u7 H H') (h:jc K H a xs):jc K H' a xs:=by
 obtain(h|⟨b,h⟩)|h:=h
 .exact .inl (.inl (g _ _ h))
 .exact .inl (.inr ⟨b,g _ _ h⟩)
 .exact .inr h
theorem KU.mono {H H':Hp} (g:∀a b,H a=some (.tup b)->H' a=some (.tup b)):∀{U:List (Str × List Int)}{kvs:List (O0 × V)},KU H U kvs->KU H' U kvs
 | [],_,h=>h
 | (_,_)::_,_,⟨a,r,e,c,d,f⟩=>⟨a,r,e,g _ _ c,d,KU.mono g f⟩
def gR (U:List (Str × List Int)) (x:Str) (ns:List Int):List (Str × List Int):=if (U.any λr=>decide (r.1=x))=true then U.map (λr=>if r.1=x then (r.1,ns) else r) else U++[(x,ns)]
theorem KU.repl {H:Hp}{x:Str}{a:Addr}{ns:List Int} (f:H a=some (.tup (ns.map V.int))) (g:aO 20 (DI ns)=true):∀{U:List (Str × List Int)}{kvs:List (O0 × V)},KU H U kvs->KU H (U.map λr=>if r.1=x then (r.1,ns) else r) (kvs.map λd=>if d.1=B8 x then (d.1,.ref a) else d)
 | [],kvs,h=>by rw[show kvs=[] from h];rfl
 | (y,m)::U,_,⟨b,r,e,j,k,l⟩=>by
  rw[e,t8,t8];have i:=KU.repl (x:=x) f g l;by_cases c:y=x
  .rw[ZB (show (B8 y:O0)=B8 x by rw[c]),ZB c];exact⟨a,_,rfl,f,g,i⟩
  .rw[ZC (show ¬ (B8 y:O0)=B8 x from λz=>c (by injection z)),ZC c];exact⟨b,_,rfl,j,k,i⟩
variable {x:Str}{ns:List Int}{U:List (Str × List Int)}
def KU.put {a:Addr}{kvs:List (O0 × V)} (h:KU H U kvs) (b:H a=some (.tup (ns.map V.int))) (c:aO 20 (DI ns)=true):KU H (gR U x ns) (aK kvs (B8 x) (.ref a)):=by
 unfold aK gR;rw[h.any];split
 .exact h.repl b c
 .exact h.snoc b c
def yJ :(gR U x ns).length<=U.length+1:=by
 unfold gR;split
 .rw[d8];lia
 .rw[y9];exact i4 _
def LJ (h:∀r∈U,N8 r.1=true) (c:N8 x=true):∀r∈gR U x ns,N8 r.1=true:=λr a=>by
 unfold gR at a;split at a
 .obtain⟨q,b,e⟩:=ZY.mp a;rw[<- e];split
  .exact h q b
  .exact h q b
 .rcases ZX.mp a with e|e
  .exact h r e
  .rw[ZZ.mp e];exact c
variable {line:Str}
def CH(h:bf line=some (("urn":Str),[Wd.name y,Wd.urn ns])) (b:aO 20 (DI ns)=true):qP U (.str line)=.put y ns:=by show (match bf line with|none=>mi.no 9|some (a,c)=>kB U a c)=_;rw[h];show kB U "urn" [Wd.name y,Wd.urn ns]=_;unfold kB;rw[ZC (by decide)];show (if ("urn":Str)="urn" then (match Gr [Wd.urn ns] with|some ns=>if aO 20 (DI ns)=true then mi.put y ns else .any|none=>.any) else _)=_;rw[ZB rfl];show (if aO 20 (DI ns)=true then mi.put y ns else .any)=_;rw[ZB b]
def CI {b:Str}{ds:List Wd}(h:bf line=some (b,Wd.name x::ds)) (c:b≠"kept") (d:b≠"urn") (e:b≠"draw") (f:vz U x=some ns):qP U (.str line)=uO ns b ds:=by show (match bf line with|none=>mi.no 9|some (a,ds)=>kB U a ds)=_;rw[h];show kB U b (Wd.name x::ds)=_;unfold kB;rw[ZC c];show (if b="urn" then _ else match vz U x with|none=>mi.no 0|some ns=>_)=_;rw[ZC d,f];show (if b="draw" then _ else uO ns b ds)=_;rw[ZC e]
def GW (U:List (Str × List Int)):qP U (.str "kept")=.tx (C1 " " (Ek (U.map (·.1)))):=by show (match bf "kept" with|none=>mi.no 9|some (a,b)=>kB U a b)=_;rw[Ji];show kB U "kept" []=_;unfold kB;rw[ZB rfl]
def yE (hx:N8 x=true) (hl:vz U x=some ns):qP U (.str ("show "++x))=.tx (nT ns):=by
 have e:("show ":Str)++x=C1 " " ["show",x]:=by rw[G5,E3,aE];rw[show ("show ":Str)="show"++" " from by decide]
 rw[e,CI (yY hx) (by decide) (by decide) (by decide) hl];unfold uO;rw[ZB rfl]
def GV {b:Str}{ds:List Wd} (h:bf line=some (b,Wd.name x::ds)) (c:b≠"kept") (d:b≠"urn") (e:vz U x=none):qP U (.str line)=.no 0:=by show (match bf line with|none=>mi.no 9|some (a,ds)=>kB U a ds)=_;rw[h];show kB U b (Wd.name x::ds)=_;unfold kB;rw[ZC c];show (if b="urn" then _ else match vz U x with|none=>mi.no 0|some ns=>_)=_;rw[ZC d,e]
def LC (h:bf line=none):qP U (.str line)=.no 9:=by show (match bf line with|none=>mi.no 9|some (a,b)=>kB U a b)=_;rw[h]
def W1 (U:List (Str × List Int)):List (O0 × V):=U.map λr=>(B8 r.1,.str (nT r.2))
def JB (U:List (Str × List Int)) (x:Str) (ns:List Int):aK (W1 U) (B8 x) (.str (nT ns))=W1 (gR U x ns):=by
 have e:((W1 U).any λa=>decide (a.1=B8 x))=U.any λr=>decide (r.1=x):=by unfold W1;rw[Uu];congr 1;funext r;exact decide_eq_decide.mpr ⟨λz=>by injection z,λz=>Zu B8 z⟩
 unfold aK gR;rw[e];split
 .unfold W1;rw[R8,R8];refine Gb λr _=>?_;show (if (B8 r.1:O0)=B8 x then _ else _)=_;by_cases h:r.1=x
  .rw[ZB (by rw[h])];show _=(B8 (if r.1=x then (r.1,ns) else r).1,V.str (nT (if r.1=x then (r.1,ns) else r).2));rw[ZB h]
  .rw[ZC (λz=>h (by injection z))];show _=(B8 (if r.1=x then (r.1,ns) else r).1,V.str (nT (if r.1=x then (r.1,ns) else r).2));rw[ZC h]
 .unfold W1;rw[v9];rfl
theorem kW (x:Str):∀U:List (Str × List Int),fI (W1 U) (B8 x)=(vz U x).map λns=>V.str (nT ns)
 | []=>rfl
 | (y,ns)::U=>by
  show fI ((B8 y,_)::W1 U) _=_;unfold vz;by_cases h:y=x
  .rw[lG (by simp[h]),jm (by rw[h])];rfl
  .rw[lH (by simp[h]),gJ (λz=>h (by injection z))];exact kW x U
def Jg (U:List (Str × List Int)) (x:Str) (ns:List Int):vz (gR U x ns) x=some ns:=by
 have h:=kW x (gR U x ns);unfold gR vz;split
 .rename_i h;induction U with
  | nil=>cases h
  | cons r U a =>
   rw[t8];by_cases e:r.1=x
   .rw[ZB e,lG (by simp[e])];rfl
   .rw[ZC e,lH (by simp[e])];exact a (kW x _) (by simpa [e] using h)
 .rename_i h;rw[List.find?_append,Ko.mpr (λr b=>by simpa using λz=>h (ZJ.mpr ⟨r,b,by simpa using z⟩))];simp
def QT {rs:List (List Int)}{a:Str}{k:Nat} (b:a="stands" ∨ a="mean") (c:aD (ns.length:Int) (DR rs)=true) (f:k<=6) (d:(ng rs k [(ns,1)]).length<128):uO ns a [Wd.rule rs,Wd.fig k]=.tx (if a="stands" then tx ((ng rs k [(ns,1)]).length:Int) else C1 " " ((xR rs ns k ns.length).map fS)):=by unfold uO;rw[ZC (by rcases b with e|e <;> (rw[e];decide)),ZB b];show (if aD (ns.length:Int) (DR rs)=false then mi.no 1 else _)=_;rw[ZC (by rw[c];decide),ZC (by lia),ZB d]
def Dw {b:TE}{c:TA}{a:L2.St}{Q:List V->Hp->Prop} (h:b a H λx d=>c a d λe f=>Q (x::e) f):kM b c a H Q:=h
section
variable {P:j0}{w:w5}{K:m9}{mg:Str->Option b9}{base:Heap}{f:Addr}{fd:C5}{ec:Nat->Addr}{Bs CD:Addr}
def GK (CD:Addr):Sp:=λi H Q _=>∃(d m c:Addr) (e:V) (a:List (O0 × V)) (U:List (Str × List Int)) (b:Str) (n:Nat) (ns:List Int) (g:List (List Int)),i=[.ref d,.str b,.ref c,e]/\DG CD H d m a/\KU H U a/\U.length<=50/\(∀r∈U,N8 r.1=true)/\N8 b=true/\vz U b=some ns/\H c=some (.tup (ns.map V.int))/\Dt d H (DR g) e/\Mt.jW n 20 ns/\Mt.jx n 5 g/\1<=n/\n<=4/\∀h,u7 H h->Q (.bl true) h
abbrev Pp:Stmt:=top 85
def yD:C6 ["_law_desk","_law_name_here","_law_urn_here","_law_rule_here","_law_text","_law_many","_law_found","_law_due"] ["_law_desk","_law_name_here","_law_urn_here","_law_rule_here"] (A0 Pp):=aS
def Tg (F:aU K "_law_answers_right" "_law_answers_right" Pp f fd) (B:Bt mg) (B2:KD mg) (D:ud K CD) (c1:Y1 P w K mg base 11 "_law_rule_text" ["_law_rule_here"] Cz) (c2:Y1 P w K mg base 11 "_law_fraction_text" ["_law_part"] pA) (c3:Z9 P w K mg base 11 "stands" ["urn","rule","draws"] (yr ec)) (c4:Z9 P w K mg base 11 "mean" ["urn","rule","draws"] (CB ec)) (c5:lx P w K mg base CD 11 "say" ["self","line"] (kN CD ec)):K6 P w K mg base ee 12 f fd ["_law_desk","_law_name_here","_law_urn_here","_law_rule_here"] (GK CD):=by
 refine F.ok yD (λvs H Q E h=>?_) (λb0 A a8 s H vs Q E v h=>?_)
 .obtain⟨d,m,y,C,a0,U,J,n,ns,b,rfl,_⟩:=h;rfl
 obtain⟨d,m,y,C,a0,U,J,n,ns,b,rfl,⟨dx,hd,hm⟩,hK,a1,hN,a2,a9,L,a3,c,M,n1,N,q⟩:=h;refine⟨_,(m8 (F7 (i:=4) yD.nd rfl (B6 rfl) (D9 c1 v rfl (b8 (pv 3) i3)))
  (m8 (eQ M4 rfl (Y6 rfl B.range (b8 A7 i3)) (U6 (i:=5) yD.nd rfl (B6 rfl))
  (m8 (F7 (i:=6) yD.nd rfl (B6 rfl) (cK (pv 0) D.cls c5 v iV (b8 (y8 i8 (y8 i8 (y8 i8 (y8 i8 (y8 i8 n9 (pv 1)) n9) (pv 4)) n9) (G9 R0 rfl B2.str dc (b8 (pv 5) i3))) i3)))
  (m8 (R3 (J1 iB (pv 6) (G9 R0 rfl B2.str dc (b8 (D4 R1 rfl B.len J8 (b8 (Q9 c3 v rfl iV (b8 (pv 2) (b8 (pv 3) (b8 (pv 5) i3)))) i3)) i3)) (N2 _)) (u6 (C8 fQ)) G0)
  (m8 (F7 (i:=7) yD.nd rfl (B6 rfl) (cz E6 Q5 Q4 iG n9 (b8 (Q2 (N:=["_law_one"]) (ix:=[none]) (ifs:=[]) (tc:=ag) rfl (mP (Q9 c4 v rfl iV (b8 (pv 2) (b8 (pv 3) (b8 (pv 5) i3)))))
   (λs H ex=>dq (i:=0) (by decide) rfl (B6 rfl) (.inr rfl)) (λs H ex=>P5) (λs H ex=>(D9 c2 v rfl (b8 (pv 0) i3))) rfl (by decide) (by rfl) (by rfl) (λ_=>rfl)) i3)))
  (u6 (R3 (J1 iB (cK (pv 0) D.cls c5 v iV (b8 (y8 i8 (y8 i8 (y8 i8 (y8 i8 (y8 i8 n9 (pv 1)) n9) (pv 4)) n9) (G9 R0 rfl B2.str dc (b8 (pv 5) i3))) i3)) (pv 7) (N2 _)) (u6 (C8 fQ)) G0))))))
  (u6 (C8 fQ)))),?_⟩
 have ab:y≠d:=λz=>by rw[z,hd] at L;cases L
 have kn:=vq a2;have kr:=PY M N;have hu:=nW c n1 N;have ac:aD (ns.length:Int) (DR b)=true:=by rw[c.len];exact sx M
 refine⟨_,rfl,d,C,b,n,rfl,a3,M,n1,N,λH1 g1=>?_⟩;refine⟨7,rfl,by decide,by decide,?_⟩;refine lT (lo:=0) (n:=7) (λj l S=>u7 H S/\j<=7/\∃o5 o6 o7,l=[some (.ref d),some (.str J),some (.ref y),some C,some (.str (rT b)),o5,o6,o7])
  ⟨g1,by decide,_,_,_,rfl⟩ (λj l S hj h=>?_) (λl S h=>q S h.1)
 obtain⟨O,_,o5,o6,o7,rfl⟩:=h;have e0:(0:Int)+(j:Int)=(j:Int):=by lia
 rw[e0];dsimp only[V5];have o:=Fh M n1 N c (k:=j) (by lia);have ad:(tx (j:Int)).length<=9:=by
  have:∀k:Fin 7,(tx (k.1:Int)).length<=9:=by decide
  exact this ⟨j,hj⟩
 have al:((j:Int)).natAbs.log2<1920:=mw (by lia) (by show (j:Int)<_;exact bN (show (j:Int)<=6 by lia) (by decide));have a4:=a3.kp (O.kp d);have AK:∀I,u7 S I->Nh d I ns.length ns b j y C:=λI g=>⟨Dt.mkI ab ((O.trans g) _ _ L),by rw[c.len];exact c,a4.kp (g.kp d),by rw[c.len];exact M,by rw[c.len];exact n1,by rw[c.len];exact N,by lia,o⟩
 have SY:∀(a:Str) (t:Str) (I:Hp) (Q':VK) (E':XK),(a="stands" ∨ a="mean")->u7 S I->t=C1 " " [a,J,rT b,tx (j:Int)]->t.length<=900->(∀H3,u7 I H3->Q' (.str (if a="stands" then tx ((ng b j [(ns,1)]).length:Int) else C1 " " ((xR b ns j ns.length).map fS))) H3)->kN CD ec [.ref d,.str t] I Q' E':=λa t I Q' E' ha g et hl k=>by
  have gg:=O.trans g;refine⟨d,m,a0,U,.str t,.str t,rfl,⟨dx,gg _ _ hd,gg _ _ hm⟩,hK.same gg,a1,λr v=>(cY (hN r v)).2.1,Dt.str _ _ _,(λt' e=>by cases e;exact hl),?_⟩;have R:a≠"kept"/\a≠"urn"/\a≠"draw":=by rcases ha with e|e <;> (rw[e];decide)
  rw[et,CI (BI ha a2 M n1 N (by lia)) R.1 R.2.1 R.2.2 a9,QT ha ac (by lia) o];exact k
 have ln:=kn.2;have lr:=kr.2;have TL:∀(l:L2.St) (a:Str),a.length<=9->l[1]?=some (some (.str J))->l[4]?=some (some (.str (rT b)))->l[5]?=some (some (.int (j:Int)))->Tx 200 (Eh vi (Eh vi (Eh vi (Eh vi (Eh vi (tC (.str a)) (rR 1)) (tC (.str " "))) (rR 4)) (tC (.str " "))) (UA (λxs H Q=>∃i,xs=[V.int i]/\i.natAbs.log2<1920/\Q (.str (K9 (toString i))) H) (kM (rR 5) rS))) l (a++J++" "++rT b++" "++tx (j:Int)):=λl a ha h1 h4 h5=>by have t:Tx _ _ l _:=.a (.a (.a (.a (.a (⟨λ_ _ q=>q,ha⟩:Tx 9 (tC (.str a)) l a) (.v h1 ln)) (.c (s:=" "))) (.v h4 lr)) (.c (s:=" "))) (⟨λH Q q=>⟨_,h5,j,rfl,al,q⟩,ad⟩:Tx 9 (UA (λxs H Q=>∃i,xs=[V.int i]/\i.natAbs.log2<1920/\Q (.str (K9 (toString i))) H) (kM (rR 5) rS)) l (tx (j:Int)));exact⟨t.1,j9 t.2 (by decide)⟩
 have t1:=TL [some (.ref d),some (.str J),some (.ref y),some C,some (.str (rT b)),some (.int (j:Int)),o6,o7] "stands " (by decide) rfl rfl rfl;refine⟨_,rfl,d,dx,_,rfl,O _ _ hd,rfl,Dw (t1.1 _ _ ?_)⟩;refine SY "stands" _ _ _ _ (.inl rfl) (u7.refl _) (S3 uK.1.2.1) (j9 t1.2 (by decide)) λH3 g3=>?_;rw[ZB rfl];dsimp only[V5];have b4:=O.trans g3;refine⟨_,rfl,_,rfl,_,rfl,_,rfl,.inr ⟨d,y,C,_,j,ns,b,rfl,AK _ g3,λD0 zs T' H4 g4 hT hD hB=>?_⟩⟩;have am:zs.length=(ng b j [(ns,1)]).length:=by rw[<- hT.length_eq];exact hB.len
 refine⟨D0,_,rfl,.inl (.of hD),_,rfl,?_⟩;rw[am];refine⟨mw (dX _) (bN (ZN.mpr (aJ o)) (by decide)),rfl,_,rfl,tP rfl ?_⟩;have a5:=g3.trans g4;refine⟨rfl,_,rfl,_,rfl,_,rfl,.inr ⟨d,y,C,_,j,ns,b,rfl,AK _ a5,λp xs H5 g5 hx hF=>⟨p,rfl,⟨_,.of hx⟩,?_⟩⟩⟩;have R:=NM (k:=j) (n:=ns.length) (by rw[c.len];exact M) (by rw[c.len];exact N) (by rw[c.len];exact c) (by lia);have a6:=hF.len;have an:(xR b ns j ns.length).length=ns.length:=by unfold xR;rw[d8,fb]
 have b5:=c.len;have ap:=a5.trans g5;generalize xR b ns j ns.length=T at R hF a6 an SY;refine jV (K:=K) (a:=p) (xs:=xs) (sz (by lia)) (λi X Y=>u7 H5 Y/\X=((T.take i).map fS).map V.str/\X.length=i) ⟨u7.refl _,rfl,rfl⟩ (λi X Y h=>h.2.2) (λi X Y _ h=>.of (h.1 _ _ hx)) rfl (λi X Y z hz h=>?_) (λX Y h=>?_)
 .obtain⟨g6,hy,a7⟩:=h;obtain⟨x,u,r,er,ar⟩:=hF.get hz;subst er;obtain⟨w0,w1,w2⟩:=R x (r0 u);refine⟨_,rfl,r,x.num,x.den,rfl,g6 _ _ ar,w0,w1,dX _,w2,λH7 Z=>⟨g6.trans Z,?_,by rw[y9,a7];rfl⟩⟩;rw[hy,D8,u,v9,v9];rfl
 .obtain⟨g6,hy,a7⟩:=h;rw[a6,C0 (i4 _)] at hy;subst hy;intro pj ax;have ay:=dH (m:=1149) (ys:=T.map fS) λz hz=>by obtain⟨x,u,e⟩:=ZY.mp hz;obtain⟨w0,w1,w2⟩:=R x u;rw[<- e];exact Jn w0 w1 w2
  rw[d8] at ay;refine⟨_,pj,T.map fS,rfl,rfl,.of j3,?_,?_⟩
  .rw[d8];have:(" ":Str).length=1:=by decide
   rw[this];lia
  have Z:=ap.trans (g6.trans (u7.new (o:=.lst ((T.map fS).map V.str)) ax));generalize C3 Y pj (.lst ((T.map fS).map V.str))=H7 at Z;dsimp only[V5];have t2:=TL [some (.ref d),some (.str J),some (.ref y),some C,some (.str (rT b)),some (.int (j:Int)),some (.str (tx ((ng b j [(ns,1)]).length:Int))),some (.str (C1 " " (T.map fS)))] "mean " (by decide) rfl rfl rfl;refine⟨_,rfl,d,dx,_,rfl,(O.trans Z) _ _ hd,rfl,Dw (t2.1 _ _ ?_)⟩;refine SY "mean" _ _ _ _ (.inr rfl) Z (S3 uK.1.2.2.1) (j9 t2.2 (by decide)) λH8 g8=>?_;rw[ZC (by decide)];refine⟨_,rfl,rfl,_,rfl,tP rfl ?_⟩;exact⟨O.trans (Z.trans g8),by lia,_,_,_,rfl⟩
end
end G
namespace L2
open PySem PySem.Spec PyProof.Rows
section
variable {X:Cx}{pins:List (Addr × Obj)}{σ:St}{H:Hp}{s:d9}
def D1.thawK {d:Addr}{o:Obj}{kvs:List (O0 × V)} (I:D1 X pins σ H s) (e:H d=some (.frz o (.dK kvs))) (j:X.H₀ d=none):D1 X pins σ (C3 H d (.dK kvs)) s:=by
 have ok:=(show O4 X.prog X.w H s.heap d (.frz o (.dK kvs)) from I.hok d _ e)
 have ne:∀{b},H b=none->C3 H d (.dK kvs) b=none:=λ{b} n=>by rw[t9 (λz=>by rw[z,e] at n;cases n)];exact n
 have f:∀{b u},X.H₀ b=some u->b≠d:=λh z=>by rw[z,j] at h;cases h
 have B:=I.base;exact⟨I.ok,I.os,I.bare,⟨B.keep,B.slot,λb o q n k=>ne (B.free b o q n k),B.there,λb a q=>by rw[t9 (f q)];exact B.tups b a q,λb o u q=>by rw[t9 (f q)];exact B.frzs b o u q,λb l q=>by rw[t9 (f q)];exact B.tbls b l q⟩,I.loc,I.cell,ne I.free,λx c h=>ne (I.freeC x c h),λp g=>⟨(I.pin p g).1,ne (I.pin p g).2.1,(I.pin p g).2.2⟩,λb ob q=>by
  have tup:∀b a,H b=some (.tup a)->C3 H d (.dK kvs) b=some (.tup a):=λb a q=>by rw[t9 (jt q e (by intro z;cases z))];exact q
  have own:∀b c,H b=some (.own c)->C3 H d (.dK kvs) b=some (.own c):=λb c q=>by rw[t9 (jt q e (by intro z;cases z))];exact q
  by_cases i:b=d
  .subst i;rw[j3] at q;cases q;exact ok.2.stay (λc v _ q=>q) (λc q=>own c _ q) tup
  .rw[t9 i] at q;exact(I.hok b ob q).stay (λc v _ q=>q) (λc q=>own c _ q) tup,I.len⟩
def LQ {e:Expr}{c:TE} (f:PE X e c):PE X e (λσ H Q=>c σ H λx b=>∃d o a,b d=some (.frz o (.dK a))/\X.H₀ d=none/\Q x (C3 b d (.dK a))):=λpins s σ H Q I h =>
 C4 (f pins s σ H _ I h) (λv j ⟨x,b,g,i,d,o,a,e1,e0,q⟩=>⟨x,_,g.thawK e1 e0,i,q⟩) λe s h=>h
end
end L2
namespace G
open PySem PySem.Spec PyProof.Rows L2 Mt
def hasU (U:List (Str × List Int)) (x:Str):Bool:=U.any λr=>decide (r.1=x)
def BU (U:List (Str × List Int)) (x:Str):(vz U x).isSome=hasU U x:=by unfold vz hasU;rw[jj,bQ,List.find?_isSome,List.any_eq_true]
def ME (U:List (Str × List Int)) (x y:Str) (ns:List Int):hasU (gR U y ns) x=(hasU U x || decide (y=x)):=by
 unfold gR;split
 .rename_i h;have e:hasU (U.map λr=>if r.1=y then (r.1,ns) else r) x=hasU U x:=by unfold hasU;rw[Uu];congr 1;funext r;show decide ((if r.1=y then (r.1,ns) else r).1=x)=_;split <;> rfl
  rw[e];by_cases z:y=x
  .rw[<- z,show hasU U y=true from h];rfl
  .rw[Zz z,oV]
 .unfold hasU;rw[List.any_append];simp
def L7:List Str:=["a","b","c","d","e","f","g"]
theorem JU (p:Str->Bool) (y:Str):∀L:List Str,L.countP (λx=>p x || decide (y=x))<=L.countP p+L.count y
 | []=>i4 _
 | x::L=>by
  have b:=JU p y L;rw[kE,kE,Ot];by_cases e:y=x
  .subst e;cases p y <;> simp <;> lia
  .have a:¬ (x == y)=true:=by simpa using λz=>e z.symm
   rw[Zz e,oV,ZC a];lia
theorem TM (y:Str):∀{L:List Str},L.Pairwise (·≠·)->L.count y<=1
 | [],_=>A6 _
 | x::L,h=>by
  rw[List.pairwise_cons] at h;rw[Ot];by_cases e:(x == y)=true
  .rw[ZB e];have:L.count y=0:=ZD.mpr λz=>h.1 y z (by simpa using e);lia
  .rw[ZC e];exact TM y h.2
structure Fw (j:Nat) (U:List (Str × List Int)):Prop where
 nm:∀r∈U,N8 r.1=true
 ct:L7.countP (hasU U)<=j
variable {j:Nat}{U:List (Str × List Int)}{ns:List Int}
def Fw.put(h:Fw j U) (a:N8 y=true):Fw (j+L7.count y) (gR U y ns):=
 ⟨LJ h.nm a,by rw[show hasU (gR U y ns)=λx=>hasU U x || decide (y=x) from funext λx=>ME U x y ns];exact j9 (JU _ y L7) (Ga h.ct _)⟩
def Fw.put1(h:Fw j U) (a:N8 y=true):Fw (j+1) (gR U y ns):=⟨(h.put a).nm,j9 (h.put a).ct (Kn (TM y (by decide)) j)⟩
def Fw.lost (h:Fw j U) (b:j<=6):∃x∈L7,hasU U x=false:=by
 by_cases z:∀x∈L7,hasU U x=true
 .have:=List.countP_eq_length.mpr z;have l:L7.length=7:=rfl;have:=h.ct;lia
 .refine Classical.byContradiction λn=>z λx a=>?_;cases e:hasU U x with
  | true=>rfl
  | false=>exact Zy ⟨x,a,e⟩ n
def LX {c:Nat} (b:107<=c) (a:c<=122):N8 (iW c)=true/\L7.count (iW c)=0:=by
 refine⟨?_,ZD.mpr λz=>?_⟩
 .unfold N8;show (true&&true&&(letP c&&true))=true;unfold letP;rw[ZA (show 97<=c by lia),ZA a];rfl
 .have:∀x∈L7,∀e∈x.cps.toList,e<=103:=by decide
  have:=this _ z c (ZZ.mpr rfl);lia
def tu:Str:="klmnopqrstuv"
def Jl{M:Nat} (h:M=0 ∨ M=12)  (a:(O7 tu none (some (M:Int))).cps[i]?=some c):i<12/\107<=c/\c<=122:=by
 have d:tu.length=12:=by decide
 have e:=yw (x:=tu) (k:=M) (by lia);rw[<- G7,e] at a;have all:∀c∈tu.cps.toList,107<=c/\c<=122:=by decide
 have b:=(ZW.mp a).1;rw[B0] at b;have:=all c (D6 (r0 a));lia
def nT1 (z:Int):nT [z]=tx z:=by unfold nT;rw[t8,rg,G5,aE]
structure Wk (K:m9) (CD a d m kp T:Addr) (scr:List Int) (U1 U2:List (Str × List Int)) (kv:List (O0 × V)) (H:Hp):Prop where
 sq:jc K H a (scr.map V.int)
 ct:nu lq T H
 dk:∃dx,H d=some (.ins CD dx [("urns_by_name",.ref m)])
 mm:H m=some (.dK kv)
 ku:KU H U1 kv
 kk:H kp=some (.dK (W1 U2))
def Fixd (o:HO):Prop:=(∀x b,o≠.lst [.int x,.bl b])/\∀a,o≠.tbl a
def Th(h:ns.map V.int=[V.int x,V.bl b]):False:=by
 cases ns with
 | nil=>cases h
 | cons n ns =>
  cases ns with
  | nil=>cases h
  | cons m ns=>cases h
section
variable {K:m9}{CD a d m kp T l:Addr}{scr:List Int}{U1 U2:List (Str × List Int)}{kv:List (O0 × V)}{H H':Hp}{b:Bool}
theorem Wk.mono (h:Wk K CD a d m kp T scr U1 U2 kv H) (g:∀z o,Fixd o->H z=some o->H' z=some o) (c1:nu lq T H'):Wk K CD a d m kp T scr U1 U2 kv H':=by
 obtain⟨e,_,⟨f,i⟩,k,n,p⟩:=h;have q:∀z c,H z=some (.tup c)->H' z=some (.tup c):=λz c h=>g _ _ ⟨nofun,nofun⟩ h;refine⟨?_,c1,⟨f,g _ _ ⟨nofun,nofun⟩ i⟩,g _ _ ⟨nofun,nofun⟩ k,n.mono q,g _ _ ⟨nofun,nofun⟩ p⟩;obtain(h|⟨o,h⟩)|h:=e
 .exact .inl (.inl (g _ _ ⟨λx b z=>Th (HO.lst.inj z),(by intro r z;cases z)⟩ h))
 .exact .inl (.inr ⟨o,g _ _ ⟨nofun,nofun⟩ h⟩)
 .exact .inr h
theorem Wk.same (h:Wk K CD a d m kp T scr U1 U2 kv H) (g:u7 H H'):Wk K CD a d m kp T scr U1 U2 kv H':=h.mono (λz o _ e=>g _ _ e) (h.ct.same g)
def Wk.sta {x:Int} (h:Wk K CD a d m kp T scr U1 U2 kv H) (c:H l=some (.lst [.int x,.bl b])) (g:cW l b H H'):Wk K CD a d m kp T scr U1 U2 kv H':=h.mono (λz o f e=>g.1 _ _ (λq=>by rw[q,c] at e;injection e with e;exact f.1 _ _ e.symm) e) (h.ct.kp c g.1)
def Wk.kpT {ps:Array b9} (h:Wk K CD a d m kp T scr U1 U2 kv H) (hT:H T=some (.tbl ps)) (k:Kp T H H') (c1:nu lq T H'):Wk K CD a d m kp T scr U1 U2 kv H':=h.mono (λz o f e=>k _ _ (λq=>by rw[q,hT] at e;injection e with e;exact f.2 _ e.symm) e) c1
def Wk.putD {y:Str}{ns:List Int}{u:Addr} (h:Wk K CD a d m kp T scr U1 U2 kv H) (g:m≠kp) (i:H u=some (.tup (ns.map V.int))) (ok:aO 20 (DI ns)=true):Wk K CD a d m kp T scr (gR U1 y ns) U2 (aK kv (B8 y) (.ref u)) (C3 H m (.dK (aK kv (B8 y) (.ref u)))):=by
 obtain⟨k,n,⟨o,e⟩,c,p,q⟩:=h;have r:∀f,H m≠some (.tup f):=λf z=>by rw[c] at z;cases z
 exact⟨DD c k,zu n c,⟨o,by rw[t9 (λz=>by rw[z,c] at e;cases e)];exact e⟩,j3,(p.put i ok).but r,by rw[t9 g.symm];exact q⟩
def Wk.putH {y:Str}{ns:List Int} (h:Wk K CD a d m kp T scr U1 U2 kv H) (g:m≠kp):Wk K CD a d m kp T scr U1 (gR U2 y ns) kv (C3 H kp (.dK (aK (W1 U2) (B8 y) (.str (nT ns))))):=by
 obtain⟨i,k,⟨n,e⟩,o,p,c⟩:=h;have q:∀f,H kp≠some (.tup f):=λf z=>by rw[c] at z;cases z
 exact⟨DD c i,zu k c,⟨n,by rw[t9 (λz=>by rw[z,c] at e;cases e)];exact e⟩,by rw[t9 g];exact o,p.but q,by rw[j3,JB]⟩
def Wk.get (h:Wk K CD a d m kp T scr U1 U2 kv H) (x:Str):jz H kp (.str x) ((vz U2 x).map λns=>V.str (nT ns)):=by have:=jz.k (k:=(B8 x:O0)) h.kk;rw[kW] at this;exact this
end
section
variable {K:m9}{CD a d m kp T:Addr}{scr:List Int}{U1 U2:List (Str × List Int)}{kv:List (O0 × V)}{H:Hp}{ec:Nat->Addr}{line:Str}{Q:VK}{E:XK}
def Wk.say (W:Wk K CD a d m kp T scr U1 U2 kv H) (b:U1.length<=50) (c:∀r∈U1,N8 r.1=true) (g:line.length<=900) (q:UF ec H Q E (λx ns=>∀a f,u7 H f->f a=some (.tup (ns.map V.int))->Q (.str "ok") (C3 f m (.dK (aK kv (B8 x) (.ref a))))) (qP U1 (.str line))):kN CD ec [.ref d,.str line] H Q E:=by obtain⟨h,i⟩:=W.dk;exact⟨d,m,kv,U1,.str line,.str line,rfl,⟨h,i,W.mm⟩,W.ku,b,λr k=>(cY (c r k)).2.1,Dt.str _ _ _,(λl e=>by cases e;exact g),q⟩
end
theorem Z5.mv {s t:Addr}{H H':Hp} (h:∀a xs,H a=some (.tup xs)->a≠t/\H' a=some (.tup xs)):∀{rs:List (List Int)}{xs:List V},Z5 s H (rs.map DI) xs->Z5 t H' (rs.map DI) xs
 | [],xs,b=>by unfold Z5 at b ⊢;exact b
 | r::rs,xs,b=>by rw[t8] at b ⊢;unfold Z5 at b ⊢;obtain⟨x,z,e,d,f⟩:=b;obtain⟨a,e2,_,c⟩:=d.di;subst e2;exact⟨_,z,e,Dt.mkI (h _ _ c).1 (h _ _ c).2,Z5.mv h f⟩
theorem Dt.mv {s t:Addr}{H H':Hp} (h:∀a b,H a=some (.tup b)->a≠t/\H' a=some (.tup b)) {rs:List (List Int)}{v:V} (d:Dt s H (DR rs) v):Dt t H' (DR rs) v:=by obtain⟨a,b,e,_,c,f⟩:=d.untup;subst e;exact Dt.tup (h _ _ c).1 (h _ _ c).2 (Z5.mv h f)
structure Wl (K:m9) (CD a d m kp T:Addr) (scr:List Int) (U1 U2:List (Str × List Int)) (kv:List (O0 × V)) (l:Addr) (b:Bool) (ua:Addr) (ns:List Int) (rs:List (List Int)) (rv:V) (H:Hp):Prop where
 w:Wk K CD a d m kp T scr U1 U2 kv H
 s:∃x,H l=some (.lst [.int x,.bl b])/\ni x b
 u:H ua=some (.tup (ns.map V.int))
 r:Dt d H (DR rs) rv
section
variable {K:m9}{CD a d m kp T l ua:Addr}{scr:List Int}{U1 U2 V1 V2:List (Str × List Int)}{kv kv2:List (O0 × V)}{H H':Hp}{b:Bool}{ns:List Int}{rs:List (List Int)}{rv:V}
theorem Wl.mv (h:Wl K CD a d m kp T scr U1 U2 kv l b ua ns rs rv H) (w:Wk K CD a d m kp T scr V1 V2 kv2 H') (t:∀z c,H z=some (.tup c)->H' z=some (.tup c)) (s:∃x,H' l=some (.lst [.int x,.bl b])/\ni x b):Wl K CD a d m kp T scr V1 V2 kv2 l b ua ns rs rv H' :=
 ⟨w,s,t _ _ h.u,Dt.mv (λz c e=>⟨λq=>(by obtain⟨g,f⟩:=h.w.dk;rw[q,f] at e;cases e),t _ _ e⟩) h.r⟩
theorem Wl.same (h:Wl K CD a d m kp T scr U1 U2 kv l b ua ns rs rv H) (g:u7 H H'):Wl K CD a d m kp T scr U1 U2 kv l b ua ns rs rv H':=h.mv (h.w.same g) (λ_ _ e=>g _ _ e) (let ⟨x,e,o⟩:=h.s;⟨x,g _ _ e,o⟩)
theorem Wl.sta (h:Wl K CD a d m kp T scr U1 U2 kv l b ua ns rs rv H) (g:cW l b H H'):Wl K CD a d m kp T scr U1 U2 kv l b ua ns rs rv H':=let ⟨x,e,_⟩:=h.s;h.mv (h.w.sta e g) (λz c q=>g.1 _ _ (λy=>by rw[y,e] at q;cases q) q) g.2
theorem Wl.kpT {ps:Array b9} (h:Wl K CD a d m kp T scr U1 U2 kv l b ua ns rs rv H) (hT:H T=some (.tbl ps)) (k:Kp T H H') (c1:nu lq T H'):Wl K CD a d m kp T scr U1 U2 kv l b ua ns rs rv H':=h.mv (h.w.kpT hT k c1) (λz c q=>k _ _ (λy=>by rw[y,hT] at q;cases q) q) (let ⟨x,e,o⟩:=h.s;⟨x,k _ _ (λy=>by rw[y,hT] at e;cases e) e,o⟩)
theorem Wl.putD {y:Str}{ms:List Int}{u:Addr} (h:Wl K CD a d m kp T scr U1 U2 kv l b ua ns rs rv H) (c:m≠kp) (f:H u=some (.tup (ms.map V.int))) (ok:aO 20 (DI ms)=true):Wl K CD a d m kp T scr (gR U1 y ms) U2 (aK kv (B8 y) (.ref u)) l b ua ns rs rv (C3 H m (.dK (aK kv (B8 y) (.ref u)))):=h.mv (h.w.putD c f ok) (λz g q=>by rw[t9 (λy=>by rw[y,h.w.mm] at q;cases q)];exact q) (let ⟨x,e,o⟩:=h.s;⟨x,by rw[t9 (λy=>by rw[y,h.w.mm] at e;cases e)];exact e,o⟩)
theorem Wl.putH {y:Str}{ms:List Int} (h:Wl K CD a d m kp T scr U1 U2 kv l b ua ns rs rv H) (c:m≠kp):Wl K CD a d m kp T scr U1 (gR U2 y ms) kv l b ua ns rs rv (C3 H kp (.dK (aK (W1 U2) (B8 y) (.str (nT ms))))):=h.mv (h.w.putH c) (λz f q=>by rw[t9 (λy=>by rw[y,h.w.kk] at q;cases q)];exact q) (let ⟨x,e,o⟩:=h.s;⟨x,by rw[t9 (λy=>by rw[y,h.w.kk] at e;cases e)];exact e,o⟩)
end
def QF {a H':Hp}{kp:Addr}{o:Obj}{k:List (O0 × V)} (c:a kp=some (.dK k)) (g:u7 (C3 a kp (.frz o (.dK k))) H'):∃b,u7 a b/\H'=C3 b kp (.frz o (.dK k)):=by
 refine⟨C3 H' kp (.dK k),λz u e=>?_,funext λz=>?_⟩
 .by_cases h:z=kp
  .rw[h,c] at e;rw[h,j3];exact e
  .rw[t9 h];exact g _ _ (by rw[t9 h];exact e)
 .by_cases h:z=kp
  .rw[h,j3];exact g _ _ j3
  .rw[t9 h,t9 h]
def Eg {a:Hp}{kp p:Addr}{o:Obj}{ob:HO}{k:List (O0 × V)} (c:a kp=some (.dK k)) (b:C3 a kp (.frz o (.dK k)) p=none):u7 a (C3 (C3 (C3 a kp (.frz o (.dK k))) p ob) kp (.dK k)):=λz u e=>by
 by_cases h:z=kp
 .rw[h,c] at e;rw[h,j3];exact e
 .rw[t9 h,t9 (λy=>by rw[<- y,t9 h,e] at b;cases b),t9 h];exact e
variable {K:m9}{T:Addr}
def Wk.sayF {g a d m kp:Addr}{h:List Int}{b t:List (Str × List Int)}{i:List (O0 × V)}{H:Hp}{ec:Nat->Addr}{line:Str}{Q:VK}{E:XK}{o:HO} (W:Wk K g a d m kp T h b t i H) (u:m≠kp) (k:b.length<=50) (l:∀r∈b,N8 r.1=true) (v:line.length<=900) (q:UF ec (C3 H kp o) Q E (λx ns=>∀a n,u7 (C3 H kp o) n->n a=some (.tup (ns.map V.int))->Q (.str "ok") (C3 n m (.dK (aK i (B8 x) (.ref a))))) (qP b (.str line))):(∃c,C3 H kp o d=some (.ins g c [("urns_by_name",.ref m)]))/\kN g ec [.ref d,.str line] (C3 H kp o) Q E:=by
 obtain⟨c,p⟩:=W.dk;have s:=W.kk;have f:C3 H kp o d=some (.ins g c [("urns_by_name",.ref m)]):=by rw[t9 (λz=>by rw[z,s] at p;cases p)];exact p
 exact⟨⟨c,f⟩,d,m,i,b,.str line,.str line,rfl,⟨c,f,by rw[t9 u];exact W.mm⟩,W.ku.but (λy z=>by rw[s] at z;cases z),k,λr w=>(cY (l r w)).2.1,Dt.str _ _ _,(λA e=>by cases e;exact v),q⟩
def CW {N:L2.St->Hp->Prop}{D:oK}{a:L2.St}{H:Hp} (h:N a H):NB { D with nx:=N } a H:=h
section
variable {P:j0}{w:w5}{K:m9}{mg:Str->Option b9}{base:Heap}{f:Addr}{fd:C5}{CD:Addr}
structure Cals (P:j0) (w:w5) (K:m9) (mg:Str->Option b9) (base:Heap) (c:Nat->Addr) (CD:Addr):Prop where
 state:Y1 P w K mg base 13 "_law_state" ["_law_script","_law_k"] (rX K)
 take:Y1 P w K mg base 13 "_law_take" ["_law_state_here","_law_many"] gr
 name:Y1 P w K mg base 13 "_law_name" ["_law_state_here"] AH
 urn:Y1 P w K mg base 13 "_law_urn" ["_law_state_here","_law_kinds"] wm
 rule:Y1 P w K mg base 13 "_law_rule" ["_law_state_here","_law_kinds"] sf
 ut:Y1 P w K mg base 13 "_law_urn_text" ["_law_urn_here"] rZ
 rt:Y1 P w K mg base 13 "_law_rule_text" ["_law_rule_here"] Cz
 spo:Y1 P w K mg base 13 "_law_spoiled" ["_law_state_here","_law_name_here"] AE
 bls:Y1 P w K mg base 13 "_law_bad_lines" ["_law_state_here","_law_name_here","_law_bad","_law_lost","_law_text","_law_rule_here"] AJ
 nam:Y1 P w K mg base 13 "_law_named" ["_law_name_here","_law_other","_law_rule_here"] wk
 ar:Y1 P w K mg base 13 "_law_answers_right" ["_law_desk","_law_name_here","_law_urn_here","_law_rule_here"] (GK CD)
 refused:Y1 P w K mg base 13 "_law_refused" ["_law_call"] (jI P w K mg base 12 c)
 desk:FC P w K mg base CD 12 "Desk" ["self"] (wt CD)
 say:lx P w K mg base CD 13 "say" ["self","line"] (kN CD c)
 say11:lx P w K mg base CD 11 "say" ["self","line"] (kN CD c)
def CC (K:m9) (T:Addr):Sp:=λb H Q _=>∃(a:Addr) (ns:List Int),b=[.ref a]/\jc K H a (ns.map V.int)/\ns.length<=63/\nu lq T H/\∀c,Q (.bl true) c
abbrev sr:Stmt:=top 86
def eM:C6 ["_law_script","_law_desk","_law_held","_law_many","_law_letter","_law_k","_law_state_here","_law_name_here","_law_urn_here","_law_rule_here","_law_text","_law_bad","_law_lost","_law_line"] ["_law_script"] (A0 sr):=aS
def Qi {c:Nat->Addr}{T:Addr} (F:aU K "law" "law" sr f fd) (B:Bt mg) (B2:KD mg) (B3:Ue mg) (D:ud K CD) (C:Cals P w K mg base c CD) (bu:∃cc,fd.code=.ref cc/\mD K cc T=true) (ei:K.In base) (ej:base.BuiltinsAt mg T):K6 P w K mg base ee 14 f fd ["_law_script"] (CC K T):=by
 obtain⟨cc,el,en⟩:=bu;refine F.okC eM (λvs H Q E h=>?_) (λeo A ep s H vs Q E es u h=>?_)
 .obtain⟨a,ns,rfl,_⟩:=h;rfl
 obtain⟨a,R,rfl,hS,g3,ce,q⟩:=h;have Z:∀(X:Cx),X.env.code=eo->X.base=base->X.mg=mg->TZ X T:=λX e1 e2 e3=>⟨⟨cc,by rw[e1,<- es,el],by rw[e2];exact W.codeHd_of_K ei en⟩,by rw[e2,e3];exact ej⟩
 refine⟨_,(m8 (F7 (i:=1) eM.nd rfl (iu rfl) (PK C.desk u rfl))
  (m8 (F7 (i:=2) eM.nd rfl (iu rfl) CP)
  (m8 (F7 (i:=3) eM.nd rfl (B6 rfl) (R5 U8 (S0 (b8 A7 (b8 A7 i3))) (D9 C.take u rfl (b8 (D9 C.state u rfl (b8 (pv 0) (b8 A7 i3))) (b8 A7 i3))) (λ_ _=>rfl)))
  (m8 (eQ M4 rfl (Ic (Y9 fK n9 aY (aX (pv 3)))) (U6 (i:=4) eM.nd rfl (B6 rfl))
  (m8 (rn (ki u) (pv 2) (pv 4) (G9 R0 rfl B2.str dc (b8 (y8 dI A7 (D4 Fm rfl B.len J8 (b8 (pv 2) i3))) i3)) rfl)
  (u6 (R3 (J1 iB (cK (pv 1) D.cls C.say u iV (b8 (y8 i8 (y8 i8 (y8 i8 n9 (pv 4)) n9) (wX (ki u) (pv 2) (pv 4) (λ_ _=>rfl))) i3)) n9 (N2 _)) (u6 (C8 fQ)) G0))))
  (m8 (eQ M4 rfl (Y6 rfl B.range (b8 (D4 (Fk rfl) rfl B.max boot_max (b8 A7 (b8 (D4 (Fj rfl) rfl B.min boot_min (b8 (D4 R1 rfl B.len J8 (b8 (pv 0) i3)) (b8 A7 i3))) i3))) i3)) (U6 (i:=5) eM.nd rfl (B6 rfl))
  (m8 (F7 (i:=6) eM.nd rfl (B6 rfl) (D9 C.state u rfl (b8 (pv 0) (b8 (pv 5) i3))))
  (m8 (Bi (i:=7) (j:=8) rfl eM.nd rfl rfl (by decide) rfl rfl (b8 (D9 C.name u rfl (b8 (pv 6) i3)) (b8 (D9 C.urn u rfl (b8 (pv 6) (b8 (y8 dI A7 (D9 C.take u rfl (b8 (pv 6) (b8 A7 i3)))) i3))) i3)) rfl)
  (m8 (Bi (i:=9) (j:=10) rfl eM.nd rfl rfl (by decide) rfl rfl (b8 (D9 C.rule u rfl (b8 (pv 6) (b8 (D4 R1 rfl B.len J8 (b8 (pv 8) i3)) i3))) (b8 (D9 C.ut u rfl (b8 (pv 8) i3)) i3)) rfl)
  (m8 (R3 (J1 iB (cK (pv 1) D.cls C.say u iV (b8 (y8 i8 (y8 i8 (y8 i8 n9 (pv 7)) n9) (pv 10)) i3)) n9 (N2 _)) (u6 (C8 fQ)) G0)
  (m8 (rn (ki u) (pv 2) (pv 7) (pv 10) rfl)
  (m8 (F7 (i:=11) eM.nd rfl (B6 rfl) (D9 C.spo u rfl (b8 (pv 6) (b8 (pv 7) i3))))
  (m8 (F7 (i:=12) eM.nd rfl (B6 rfl) (R5 U8 (Q2 (N:=["_law_other","_law_held"]) (ix:=[none,some 2]) rfl (cQ (y8 bV (S0 (b8 (D9 C.name u rfl (b8 (pv 6) i3)) i3)) (G9 (Fl rfl) rfl B.list boot_list (b8 n9 i3))))
   (λs H ex=>dq (i:=0) (by decide) rfl (B6 rfl) (.inr rfl)) (λs H ex=>sF (Bh (vn (ki u) (pv 0) (pv 1)) (by rfl))) (λs H ex=>(pv 0)) rfl (by decide) (by rfl) (by rfl) (λ_=>rfl)) A7 (λ_ _=>rfl)))
  (m8 (eQ M4 rfl (cQ (D9 C.bls u rfl (b8 (pv 6) (b8 (pv 7) (b8 (pv 11) (b8 (pv 12) (b8 (pv 10) (b8 (D9 C.rt u rfl (b8 (pv 9) i3)) i3)))))))) (U6 (i:=13) eM.nd rfl (iu rfl))
  (m8 (R3 (J1 iB (yN C.refused u rfl (b8 (vm (Z _ rfl rfl rfl)) i3)) A7 (N2 _)) (u6 (C8 fQ)) G0)
  (u6 (R3 (PW.pt (PB (J1 eg (Y9 fK (pv 13) aY (aX A7)) n9 (N2 _)) (LI (J1 iB (cK (pv 1) D.cls C.say u iV (b8 (y8 i8 n9 (pv 7)) i3)) (pv 10) (N2 _))))) (u6 (C8 fQ)) G0))))
  (m8 (eQ M4 rfl (cQ (D9 C.nam u rfl (b8 (pv 12) (b8 (pv 7) (b8 (D9 C.rt u rfl (b8 (pv 9) i3)) i3))))) (U6 (i:=13) eM.nd rfl (iu rfl))
  (u6 (R3 (J1 iB (yN C.refused u rfl (b8 (vm (Z _ rfl rfl rfl)) i3)) A7 (N2 _)) (u6 (C8 fQ)) G0)))
  (m8 (R3 (PW.pt (vj (J1 iB (cK (pv 1) D.cls C.say u iV (b8 n9 i3)) (cz E6 Q5 Q4 iG n9 (b8 (D4 (tW rfl) rfl B3.sorted lj (b8 (pv 2) i3)) i3)) (N2 _)) (pF (eP (eO (D9 C.ar u rfl (b8 (pv 1) (b8 (pv 7) (b8 (pv 8) (b8 (pv 9) i3)))))))))) (u6 (C8 fQ)) G0)
  (u6 (R3 (J1 (PP u.units) (LQ (Q2 (N:=["_law_one","_law_desk","_law_held"]) (ix:=[none,some 1,some 2]) rfl (Ie (pv 2))
   (λs H ex=>dq (i:=0) (by decide) rfl (B6 rfl) (.inr rfl)) (λs H ex=>sF (J1 iB (cK (pv 1) D.cls C.say u iV (b8 (y8 i8 n9 (pv 0)) i3)) (wX (ki u) (pv 2) (pv 0) (λ_ _=>rfl)) (N2 _))) (λs H ex=>(pv 0)) rfl (by decide) (by rfl) (by rfl) (λ_=>rfl))) (S0 i3) (N2 _)) (u6 (C8 fQ)) G0)))))))))))))
  (u6 (C8 fQ))))))),?_⟩
 intro d J bv be et;refine⟨d,J,rfl,j3,λm hm=>⟨rfl,?_⟩⟩;have m1:m≠d:=λz=>by rw[z,j3] at hm;cases hm
 have m2:m≠J:=λz=>by rw[t9 m1,z,j3] at hm;cases hm
 have eu:H m=none:=by rwa [t9 m1,t9 m2] at hm
 obtain⟨H1,g1,ch,bx,e1⟩:∃H1,u7 H H1/\H1 d=some (.ins CD J [("urns_by_name",.ref m)])/\H1 m=some (.dK [])/\H1=C3 (C3 (C3 (C3 H J (.own d)) d (.ins CD J [])) m (.dK [])) d (.ins CD J [("urns_by_name",.ref m)]):=by refine⟨_,λb o e=>?_,j3,by rw[t9 m1,j3],rfl⟩;rw[t9 (A5 e bv),t9 (A5 e eu),t9 (A5 e bv),t9 (A5 e be)];exact e
 show pf _ _ _ _ (C3 (C3 (C3 (C3 H J (.own d)) d (.ins CD J [])) m (.dK [])) d (.ins CD J [("urns_by_name",.ref m)]));rw[<- e1];clear e1 bv be et hm m1 m2;intro kp a4;have ci:H kp=none:=by
  cases e:H kp with
  | none=>rfl
  | some o=>rw[g1 _ _ e] at a4;cases a4
 have a8:m≠kp:=λz=>by rw[<- z,bx] at a4;cases a4
 have W2:Wk K CD a d m kp T R [] [] [] (C3 H1 kp (.dK [])):=by have g2:=u7.new a4 (o:=.dK []);exact⟨Kb (g1.trans g2) hS,ce.same (g1.trans g2),⟨J,g2 _ _ ch⟩,g2 _ _ bx,rfl,j3⟩
 try dsimp -proj only[V5]
 generalize C3 H1 kp (.dK [])=H2 at W2;clear bx ch hS ce g1 a4 H1;refine⟨(by show 2<=j6;decide),λpm ck=>?_⟩;have gm:u7 H2 (C3 H2 pm (.lst [.int 0,.int 12])):=u7.new ck;have a2:C3 H2 pm (.lst [.int 0,.int 12]) pm=some (.lst [.int 0,.int 12]):=j3;have W3:=W2.same gm;try dsimp -proj only
 generalize C3 H2 pm (.lst [.int 0,.int 12])=H3 at W3 a2;clear W2 gm ck H2;refine⟨_,rfl,a,R,0,rfl,W3.sq,λl x b hl a5=>?_⟩;have gl:u7 H3 (C3 H3 l (.lst [.int x,.bl b])):=u7.new hl;have a9:C3 H3 l (.lst [.int x,.bl b]) l=some (.lst [.int x,.bl b]):=j3;have cl:pm≠l:=λz=>by rw[<- z,a2] at hl;cases hl
 have W4:=W3.same gl;have ab:=gl _ _ a2;try dsimp -proj only
 generalize C3 H3 l (.lst [.int x,.bl b])=H4 at W4 a9 ab;refine⟨l,2,x,b,rfl,a9,a5,by decide,by decide,λy x1 hy co=>?_⟩;have W5:=W4.sta a9 ((cW.start a9 a5).go co);have ac:=Kp.at (o:=.lst [.int x1,.bl b]) _ _ cl ab;try dsimp -proj only
 generalize C3 H4 l (.lst [.int x1,.bl b])=H5 at W5 ac;obtain⟨M,hM,ev⟩:∃M:Nat,([.int 0,.int 12]:List V)[y]?=some (.int M)/\(M=0 ∨ M=12):=by
  have ew:y<2:=by lia
  match y,ew with
  | 0,_=>exact⟨0,rfl,.inl rfl⟩
  | 1,_=>exact⟨12,rfl,.inr rfl⟩
 refine⟨pm,_,_,_,rfl,rfl,.of ac,M7 hM,?_⟩;clear hM ac ab a2 W4 W3 a9 gl hl cl a5 co;try dsimp -proj only[V5]
 refine⟨_,rfl,_,rfl,tu,rfl,(by show tu.length<=_;rw[show tu.length=12 by decide];decide),_,rfl,?_⟩;refine MI (λi Y H=>∃U kv o4,Wk K CD a d m kp T R U U kv H/\Fw 0 U/\U.length<=i/\Y=[some (.ref a),some (.ref d),some (.ref kp),some (.int M),o4,none,none,none,none,none,none,none,none,none])
  ⟨[],[],none,W5,⟨by simp,i4 _⟩,i4 _,rfl⟩ (λi c Y H6 hc h=>?_) (λY H6 h=>?_)
 .clear W5;obtain⟨U,kv,o4,W,hF,ad,rfl⟩:=h;obtain⟨hi,ey,ez⟩:=Jl ev hc;obtain⟨hy,cp⟩:=LX ey ez;generalize iW c=y at hy cp;have ky:=vq hy;have N:(W1 U).length=U.length:=by unfold W1;rw[d8]
  dsimp only[V5];refine⟨_,rfl,kp,_,rfl,W.kk,_,_,rfl,rfl,_,rfl,?_,_,rfl,_,rfl,kp,_,rfl,uQ.k (k:=B8 y) W.kk (jq (by rw[N];lia)),?_⟩
  .rw[N];exact mw (by lia) (bN (show (1:Int)+(U.length:Int)<=13 by lia) (by decide))
  have W6:=W.putH (y:=y) (ns:=[1+((W1 U).length:Int)]) a8;rw[nT1] at W6;have f2:(tx (1+((W1 U).length:Int))).length<=9:=by
   rw[N];have:∀k:Fin 13,(tx (1+((k.1:Nat):Int))).length<=9:=by decide
   exact this ⟨U.length,by lia⟩
  have al:aO 20 (DI [1+((W1 U).length:Int)])=true:=by
   rw[N];have:∀k:Fin 13,aO 20 (DI [1+((k.1:Nat):Int)])=true:=by decide
   exact this ⟨U.length,by lia⟩
  have f3:=kL al;generalize (1+((W1 U).length:Int))=z1 at W6 f2 al f3;have W7:Wk K CD a d m kp T R U (gR U y [z1]) kv (C3 H6 kp (.dK (aK (W1 U) (B8 y) (.str (K9 (toString z1)))))):=W6;generalize C3 H6 kp (.dK (aK (W1 U) (B8 y) (.str (K9 (toString z1)))))=H7 at W7;clear W W6;have tA:Tx _ _ [some (.ref a),some (.ref d),some (.ref kp),some (.int M),some (.str y),none,none,none,none,none,none,none,none,none] ("urn "++y++" "):=.a (.a .c (.v (i:=4) rfl ky.2)) .c;have tl:=tA.2;obtain⟨J,hd⟩:=W7.dk;have gt:=W7.get y;rw[Jg] at gt;obtain⟨f4,n1,n4⟩:=kL al;refine⟨_,rfl,d,J,_,rfl,hd,rfl,Dw (opT (tA.1 _ _ ⟨_,rfl,_,rfl,kp,_,rfl,gt,⟨_,_,rfl,rfl,?_,?_⟩⟩))⟩
  .rw[nT1];exact sz (by lia)
  refine W7.say (by lia) hF.nm (by rw[A9,nT1];lia) ?_;rw[S2 uK.1.2.2.2.2.2.1,CH (Da hy f4 n1 n4) al];intro ua H8 g8 a6;have W8:=(W7.same g8).putD (y:=y) a8 a6 al;refine⟨rfl,_,rfl,tP rfl ?_⟩;have f1:=hF.put (ns:=[z1]) hy;rw[cp] at f1;exact⟨_,_,_,W8,f1,j9 yJ (by lia),rfl⟩
 clear W5;obtain⟨U,kv,o4,W,hF,ad,rfl⟩:=h;have cr:U.length<=12:=j9 ad (j9 (rJ ..) (by decide));refine kh ?_;refine⟨_,rfl,a,_,rfl,.inl W.sq,_,_,rfl,_,_,rfl,_,rfl,?_,?_,?_⟩
 .split <;> split <;> lia
 .rw[d8];split <;> split <;> lia
 refine lT (lo:=0) (λi Y H=>∃U kv,Wk K CD a d m kp T R U U kv H/\Fw i U/\U.length<=12+i/\∃o4 o5 o6 o7 o8 o9 ct bz c2 v,Y=[some (.ref a),some (.ref d),some (.ref kp),some (.int M),o4,o5,o6,o7,o8,o9,ct,bz,c2,v])
  ⟨U,kv,W,hF,cr,o4,none,none,none,none,none,none,none,none,none,rfl⟩ (λi Y H hi h=>?_) (λY H h=>?_)
 .clear W hF ad cr;obtain⟨U,kv,W,hF,ad,o4,o5,o6,o7,o8,o9,ct,bz,c2,v,rfl⟩:=h;have g4:i<=4:=by rw[d8] at hi;split at hi <;> split at hi <;> lia
  have e0:(0:Int)+(i:Int)=(i:Int):=by lia
  rw[e0];refine⟨_,rfl,_,rfl,a,R,i,rfl,W.sq,λl x b hl a5=>?_⟩;have W3:=W.same (u7.new (o:=.lst [.int x,.bl b]) hl);have ay:C3 H l (.lst [.int x,.bl b]) l=some (.lst [.int x,.bl b]):=j3;show pf _ _ _ _ (C3 H l (.lst [.int x,.bl b]));generalize C3 H l (.lst [.int x,.bl b])=H3 at W3 ay;clear W hl;refine⟨_,rfl,l,x,b,rfl,ay,a5,λS H4 a0 s4=>?_⟩;have W4:=W3.sta ay s4;obtain⟨_,x4,b0,c3⟩:=id s4;refine⟨_,rfl,_,rfl,l,_,x4,b,rfl,b0,c3,by decide,by decide,λk4 x5 f5 c4=>⟨_,_,rfl,rfl,?_⟩⟩;have W5:=W4.sta b0 ((cW.start b0 c3).go c4);have b4:C3 H4 l (.lst [.int x5,.bl b]) l=some (.lst [.int x5,.bl b]):=j3;generalize C3 H4 l (.lst [.int x5,.bl b])=H5 at W5 b4;obtain⟨n,e5,n1,n4⟩:∃n:Nat,(1:Int)+(k4:Int)=(n:Int)/\1<=n/\n<=4:=⟨1+k4,by lia,by lia,by lia⟩
  refine⟨l,n,x5,b,(by show _=[V.ref l,V.int (n:Int)];rw[<- e5]),b4,c4,n1,n4,λua H6 ns s6 a6 hU=>⟨_,_,rfl,?_⟩⟩;have W6:=W5.sta b4 s6;obtain⟨_,x6,b5,cv⟩:=id s6;refine kh ?_;have c5:(ns.map V.int).length=n:=by rw[d8];exact hU.len
  refine⟨_,rfl,_,rfl,ua,_,rfl,.inr (.of a6),l,_,x6,b,rfl,b5,cv,by rw[c5];exact n1,by rw[c5];exact n4,λrv H7 rs s7 d0 hR=>?_⟩;rw[c5] at hR;have L7:Wl K CD a d m kp T R U U kv l b ua ns rs rv H7:=⟨W6.sta b5 s7,s7.2,s7.1 _ _ (s6.neL a6) a6,Dt.mv (λz xs h=>⟨λe=>(by obtain⟨J,hd⟩:=(W6.sta b5 s7).dk;rw[e,hd] at h;cases h),h⟩) d0⟩
  refine⟨_,rfl,ua,ns,rfl,L7.u,by have:=hU.len;lia,λz hz=>hU.nn z hz,λH8 g8=>⟨_,_,rfl,?_⟩⟩;have L:=L7.same g8;clear W3 W4 W5 W6 L7 g8 d0 s7 s6 s4 ay b0 b4 b5 a6 a5 c3 c4 cv e5 f5;refine kh ?_;have kn:=vq a0;have kt:=SW hU n4;have kr:=PY hR n4;have hu:=nW hU n1 n4;have tA:Tx _ _ [some (.ref a),some (.ref d),some (.ref kp),some (.int M),o4,some (.int (i:Int)),some (.ref l),some (.str S),some (.ref ua),some rv,some (.str (nT ns)),bz,c2,v] ("urn "++S++" "++nT ns):=.a (.a (.a .c (.v (i:=7) rfl kn.2)) .c) (.v (i:=10) rfl kt.2);have tl:=tA.2;obtain⟨J,hd⟩:=L.w.dk;refine⟨_,rfl,d,J,_,rfl,hd,rfl,Dw (tA.1 _ _ ?_)⟩;refine L.w.say (by lia) hF.nm (j9 tl (by decide)) ?_;rw[S2 uK.1.2.2.2.2.2.1,CH (Da a0 hU n1 n4) hu];intro ub H9 g9 bi;have L9:=(L.same g9).putD (y:=S) a8 bi hu;refine⟨rfl,_,rfl,tP rfl ?_⟩;generalize C3 H9 m (.dK (aK kv (B8 S) (.ref ub)))=Ha at L9;refine⟨_,rfl,_,rfl,_,rfl,kp,_,rfl,uQ.k (k:=B8 S) L9.w.kk (jq (by rw[show (W1 U).length=U.length from d8 ..];lia)),?_⟩;have Lb:=L9.putH (y:=S) (ms:=ns) a8;have O:=hF.put1 (ns:=ns) a0;have bm:(gR U S ns).length<=12+(i+1):=j9 yJ (by lia);have c6:=Jg U S ns;generalize C3 Ha kp (.dK (aK (W1 U) (B8 S) (.str (nT ns))))=Hb at Lb;clear L L9 hF ad tA tl hd g9 bi;generalize gR U S ns=g at Lb O bm c6;generalize aK kv (B8 S) (.ref ub)=am at Lb;obtain⟨xb,d1,d2⟩:=Lb.s;refine kh ?_;refine bt ⟨_,rfl,_,rfl,l,xb,b,S,rfl,d1,d2,a0,λbad Hc d3 sc=>?_⟩;have Lc:=Lb.sta sc;clear Lb d1 sc d2;obtain⟨xc,d4,d5⟩:=Lc.s;refine bt ⟨_,rfl,l,xc,b,rfl,d4,d5,λt Hd bn sd=>?_⟩;have Ld:=Lc.sta sd;clear Lc d4 d5 sd;refine⟨(by show 1<=j6;decide),λp1 d6=>?_⟩;refine⟨"abcdefg",rfl,(by decide),λp2 c7=>?_⟩;have e7:("abcdefg":Str).cps.toList.map iW=L7:=by decide
  rw[e7] at *;refine⟨p1,p2,_,_,rfl,rfl,u7.new c7 _ _ j3,j3,(by show 1+7<=j6;decide),λp3 d7=>⟨p3,rfl,⟨_,.of j3⟩,?_⟩⟩;have Le:=((Ld.same (u7.new (o:=.lst [.str t]) d6)).same (u7.new (o:=.lst (L7.map V.str)) c7)).same (u7.new (o:=.lst ((t::L7).map V.str)) d7);have an:C3 (C3 (C3 Hd p1 (.lst [.str t])) p2 (.lst (L7.map V.str))) p3 (.lst ((t::L7).map V.str)) p3=some (.lst ((t::L7).map V.str)):=j3;rw[show [V.str t]++L7.map V.str=(t::L7).map V.str from rfl];generalize C3 (C3 (C3 Hd p1 (.lst [.str t])) p2 (.lst (L7.map V.str))) p3 (.lst ((t::L7).map V.str))=He at Le an;clear Ld d6 c7 d7;refine Fs (K:=K) (a:=p3) (xs:=(t::L7).map V.str) (by show 8<=j6;decide) (λj ys H=>H=He/\ys=(((t::L7).take j).filter λx=>!hasU g x).map V.str) ⟨rfl,rfl⟩ (λj ys H h=>?_) (λj ys H _ h=>by rw[h.1];exact .of an) rfl (λj ys H z hz h=>?_) (λys H h=>?_)
  .rw[h.2,d8];exact j9 (List.length_filter_le ..) (by rw[B0];lia)
  .obtain⟨e1,e2⟩:=h;rw[e1,e2];rw[w6] at hz;obtain⟨o,ho,rfl⟩:=Zt.mp hz;refine⟨_,rfl,_,rfl,kp,_,rfl,Le.w.get o,_,rfl,?_⟩;have tk:(t::L7).take (j+1)=(t::L7).take j++[o]:=by rw[D8,ho];rfl
   rw[jj,BU];dsimp -proj only;cases e:hasU g o with
   | false =>
    rw[ZB (show (!false)=true from rfl)];exact⟨_,rfl,rfl,by rw[tk,Kq,List.filter_cons_of_pos (by rw[e];rfl),v9];rfl⟩
   | true =>
    rw[ZC (show ¬ (!true)=true by decide)];exact⟨rfl,by rw[tk,Kq,List.filter_cons_of_neg (by rw[e];decide),List.filter_nil,P4]⟩
  obtain⟨e1,e2⟩:=h;rw[e1,e2];intro pj a7;have db:∀x∈t::L7,N8 x=true:=ZS.mpr ⟨bn,by decide⟩;obtain⟨lost,FL,dk,a1,f8⟩:∃lost FL,((t::L7).take ((t::L7).map V.str).length).filter (λx=>!hasU g x)=lost::FL/\N8 lost=true/\hasU g lost=false:=by
   rw[d8,M6];obtain⟨x,hx,fa⟩:=O.lost (by lia);cases e:(t::L7).filter (λx=>!hasU g x) with
   | nil=>exact Zy (show x∈(t::L7).filter (λx=>!hasU g x) from ZR.mpr ⟨g0 _ hx,by rw[fa];rfl⟩) (by rw[e];exact B7)
   | cons y FL =>
    have:=ZR.mp (show y∈(t::L7).filter (λx=>!hasU g x) by rw[e];exact f7);exact⟨y,FL,rfl,db y this.1,by simpa using this.2⟩
  rw[dk];have Lf:=Le.same (u7.new (o:=.lst ((lost::FL).map V.str)) a7);refine⟨pj,_,_,_,rfl,rfl,.of j3,M7 (j:=0) rfl,?_⟩;generalize C3 He pj (.lst ((lost::FL).map V.str))=Hf at Lf;clear Le an a7 dk db bn e1 e2 e7;have dn:=vq a1;have fc:vz g lost=none:=by
   have:=BU g lost;rw[f8] at this;cases e:vz g lost with
   | none=>rfl
   | some z=>rw[e] at this;cases this
  obtain⟨xf,dp,dr⟩:=Lf.s;refine⟨_,rfl,_,rfl,_,rfl,_,rfl,_,rfl,_,rfl,d,rv,rs,n,rfl,Lf.r,hR,n1,n4,λHg gg=>?_⟩;dsimp -proj only[rS];refine⟨l,xf,b,S,bad,lost,n,ns,rs,rfl,gg _ _ dp,dr,a0,d3,a1,hU,hR,n1,n4,λpb Hh dt=>?_⟩;have Lh:=(Lf.same gg).sta dt.1;obtain⟨_,_,⟨bl,I,_,dv⟩,_⟩:=dt;refine⟨pb,rfl,⟨_,.of I⟩,?_⟩;clear Lf gg dp dr;refine gY (K:=K) (a:=pb) (xs:=bl.map V.str) (λj Y H=>Wl K CD a d m kp T R g g am l b ua ns rs rv H/\H pb=some (.lst (bl.map V.str))/\∃v,Y=[some (.ref a),some (.ref d),some (.ref kp),some (.int M),o4,some (.int (i:Int)),some (.ref l),some (.str S),some (.ref ua),some rv,some (.str (nT ns)),some (.str bad),some (.str lost),v])
   ⟨Lh,I,v,rfl⟩ (λj Y H _ h=>.of h.2.1) (λj y Y H hy h=>?_) (λY H h=>?_)
  .clear Lh I;obtain⟨L,I,v,rfl⟩:=h;rw[w6] at hy;obtain⟨ln,c8,rfl⟩:=Zt.mp hy;obtain⟨ff,fl⟩:=dv ln (r0 c8);dsimp only[V5];refine λZc=>⟨L.w.ct,λf0 c0 c9 Hl N a3 fn ca cb Hf frz=>?_⟩
   obtain⟨fo,ap,_⟩:=id L.w.ct;have Ll:=L.kpT ap N a3;have b6:=N _ _ (λz=>by rw[z,ap] at I;cases I) I;refine Dg (k:=11) (N:=["_law_desk","_law_line"]) (ix:=[some 1,some 13]) (i0:=9) Zc frz ⟨c0,c9,ca,cb⟩ rfl rfl rfl rfl (by decide) rfl (by decide) (λ_ _=>rfl) (λc1 A' bb s' E1 Q1 ar cd hE=>⟨_,cK (pv 0) D.cls C.say11 ar CS (b8 (pv 1) i3),?_⟩) (λHo gO=>?_)
   .have Wi:=Ll.w.same cd;obtain⟨J,hd⟩:=Wi.dk;refine⟨_,rfl,d,J,_,rfl,hd,rfl,_,rfl,Wi.say (by lia) O.nm (j9 fl (by decide)) ?_⟩;rw[LC ff];exact hE
   have gb:=frz.back gO;have Lo:=Ll.same gb;have dy:=gb _ _ b6;refine⟨rfl,_,rfl,tP rfl ?_⟩;clear L Ll I b6 N a3 frz gO gb Zc;refine CW ⟨_,rfl,4,rfl,ln,rfl,sz (by lia),rfl,_,rfl,?_⟩;obtain⟨J,hd⟩:=Lo.w.dk;have l5:("show ":Str).length=5:=by decide
   have kl:=kn.2;split
   .refine⟨_,rfl,d,J,_,rfl,hd,rfl,_,rfl,_,_,rfl,rfl,?_,Lo.w.say (by lia) O.nm ?_ ?_⟩
    .rw[l5];exact sz (by lia)
    .rw[A9,l5];lia
    rw[yE a0 c6];intro Hc gc;exact⟨_,rfl,rfl,_,rfl,tP rfl ⟨Lo.same gc,gc _ _ dy,_,rfl⟩⟩
   .exact⟨Lo,dy,_,rfl⟩
  clear Lh I dv;obtain⟨L,_,v,rfl⟩:=h;refine kh ?_;refine⟨_,rfl,_,rfl,_,rfl,d,rv,rs,n,rfl,L.r,hR,n1,n4,λHg gg=>?_⟩;dsimp -proj only[rS];refine⟨lost,S,rT rs,rfl,dn.2,kn.2,kr.2,λpc Hi gi _ bc=>⟨pc,rfl,⟨_,.of bc⟩,?_⟩⟩;have Li:=L.same (gg.trans gi);clear L gg gi;refine gY (K:=K) (a:=pc) (xs:=(iZ lost S (rT rs)).map V.str) (λj Y H=>Wl K CD a d m kp T R g g am l b ua ns rs rv H/\H pc=some (.lst ((iZ lost S (rT rs)).map V.str))/\∃v,Y=[some (.ref a),some (.ref d),some (.ref kp),some (.int M),o4,some (.int (i:Int)),some (.ref l),some (.str S),some (.ref ua),some rv,some (.str (nT ns)),some (.str bad),some (.str lost),v])
   ⟨Li,bc,v,rfl⟩ (λj Y H _ h=>.of h.2.1) (λj y Y H hy h=>?_) (λY H h=>?_)
  .clear Li bc;obtain⟨L,I,v,rfl⟩:=h;rw[w6] at hy;obtain⟨ln,c8,rfl⟩:=Zt.mp hy;obtain⟨g5,ws,g6,Lz,e4,fp,fv⟩:=sR dn kn kr ln (r0 c8);obtain⟨ds,fx⟩:=fv a1 a0 n rs rfl hR n1 n4;dsimp only[V5];refine λZc=>⟨L.w.ct,λf0 c0 c9 Hl N a3 fn ca cb Hf frz=>?_⟩
   obtain⟨fo,ap,_⟩:=id L.w.ct;have Ll:=L.kpT ap N a3;have b6:=N _ _ (λz=>by rw[z,ap] at I;cases I) I;refine Dg (k:=11) (N:=["_law_desk","_law_line"]) (ix:=[some 1,some 13]) (i0:=0) Zc frz ⟨c0,c9,ca,cb⟩ rfl rfl rfl rfl (by decide) rfl (by decide) (λ_ _=>rfl) (λc1 A' bb s' E1 Q1 ar cd hE=>⟨_,cK (pv 0) D.cls C.say11 ar CS (b8 (pv 1) i3),?_⟩) (λHo gO=>?_)
   .have Wi:=Ll.w.same cd;obtain⟨J,hd⟩:=Wi.dk;refine⟨_,rfl,d,J,_,rfl,hd,rfl,_,rfl,Wi.say (by lia) O.nm (j9 e4 (by decide)) ?_⟩;rw[GV fx Lz.nk fp fc];exact hE
   have gb:=frz.back gO;exact⟨rfl,_,rfl,tP rfl ⟨Ll.same gb,gb _ _ b6,_,rfl⟩⟩
  clear Li bc;obtain⟨L,_,v,rfl⟩:=h;refine kh ?_;obtain⟨J,hd⟩:=L.w.dk;refine⟨_,rfl,d,J,_,rfl,hd,rfl,L.w.say (by lia) O.nm (by decide) ?_⟩;rw[GW];intro Hj gj;have Lj:=L.same gj;refine⟨rfl,_,rfl,kp,W1 g,g.map (·.1),rfl,Lj.w.kk,?_,by rw[d8];lia,λDn ms Hk pm pw gk hD=>?_⟩
  .unfold W1;rw[R8,R8];rfl
  have Lk:=Lj.same gk;have ax:ms=Ek (g.map (·.1)):=Cy pw;have fy:ms.length=g.length:=by rw[pm.length_eq,d8]
  have e6:∀y∈ms,N8 y=true:=λy hy=>by obtain⟨r,ar,e⟩:=ZY.mp (pm.mem_iff.mp hy);rw[<- e];exact O.nm r ar
  refine⟨_,Dn,ms,rfl,rfl,.of hD,?_,rfl,_,rfl,?_⟩
  .have g7:(ms.map λy=>y.length).sum<=8*ms.length:=dH λy hy=>(cY (e6 y hy)).2.1;have l1:(" ":Str).length=1:=by decide
   have big:1000<=j6:=by decide
   rw[l1];lia
  rw[ZA (show V.str (C1 " " (Ek (g.map (·.1))))=V.str (C1 " " ms) by rw[ax])];refine Z8 ?_;obtain⟨fz,e8⟩:=Lk.w.dk;refine⟨_,rfl,_,rfl,_,rfl,_,rfl,d,m,ua,rv,am,g,S,n,ns,rs,rfl,⟨fz,e8,Lk.w.mm⟩,Lk.w.ku,by lia,O.nm,a0,c6,Lk.u,Lk.r,hU,hR,n1,n4,λHm gm=>⟨_,rfl,Z8 ?_⟩⟩;have Lm:=Lk.same gm;clear L Lj Lk hd e8 gj gk gm hD pm pw ax fy e6;have e9:(W1 g).length=g.length:=d8 ..;refine CW ⟨_,rfl,kp,W1 g,rfl,Lm.w.kk,(λp hp=>?_),λo=>?_⟩
  .obtain⟨r,_,e⟩:=ZY.mp hp;exact⟨r.1,by rw[<- e]⟩
  refine Fu (by rw[e9];exact sz (by lia)) (λj ys H=>ys=[]/\∃H0,Wl K CD a d m kp T R g g am l b ua ns rs rv H0/\H=C3 H0 kp (.frz o (.dK (W1 g)))) ⟨rfl,Hm,Lm,rfl⟩ (λj ys H h=>by rw[h.1];exact A6 _) (λj ys H _ h=>by obtain⟨_,H0,_,e⟩:=h;rw[e,j3]) rfl (λj ys H k x hx h=>?_) (λys H h=>?_)
  .clear Lm;obtain⟨rfl,H0,L0,rfl⟩:=h;obtain⟨r,ea,er⟩:=ZY.mp (r0 hx);have ek:r.1=k:=by injection er with er _;injection er
   have eb:N8 k=true:=by rw[<- ek];exact O.nm r ea
   obtain⟨ms,ax⟩:∃ms,vz g k=some ms:=by have:=BU g k;rw[show hasU g k=true from ZJ.mpr ⟨r,ea,ZA ek⟩] at this;exact Zo.mp this
   have l5:("show ":Str).length=5:=by decide
   have k8:=(cY eb).2.1;have dg:∀H',H' kp=some (.frz o (.dK (W1 g)))->jz H' kp (.str k) (some (.str (nT ms))):=λH' e=>.inl ⟨W1 g,B8 k,.inr ⟨o,e⟩,rfl,by rw[kW,ax];rfl⟩;have SY:=λ(Q':VK) (E':XK) (q:∀H',u7 (C3 H0 kp (.frz o (.dK (W1 g)))) H'->Q' (.str (nT ms)) H')=>L0.w.sayF (ec:=c) (line:="show "++k) (Q:=Q') (E:=E') a8 (by lia) O.nm (by rw[A9,l5];lia) (o:=.frz o (.dK (W1 g))) (by rw[yE eb ax];exact q);obtain⟨J,hd⟩:=(SY (λ_ _=>True) (λ_ _ _=>True) λ_ _=>trivial).1;refine⟨_,rfl,d,J,_,rfl,hd,rfl,_,rfl,_,_,rfl,rfl,?_,(SY _ _ λHn gn=>?_).2⟩
   .rw[l5];exact sz (by lia)
   obtain⟨H1,g1,e1⟩:=QF L0.w.kk gn;refine⟨_,rfl,_,rfl,kp,_,rfl,dg Hn (gn _ _ j3),rfl,_,rfl,?_⟩;rw[show decide (V.str (nT ms)=V.str (nT ms))=true from ZA rfl];exact⟨rfl,H1,L0.same g1,e1⟩
  obtain⟨e1,H0,L0,e2⟩:=h;rw[e1,e2];intro pj a7;have Lz:=L0.same (Eg (ob:=.lst []) L0.w.kk a7);have ec:kp≠pj:=λz=>by rw[<- z,j3] at a7;cases a7
  have ed:C3 (C3 (C3 H0 kp (.frz o (.dK (W1 g)))) pj (.lst [])) kp (.dK (W1 g)) pj=some (.lst (([]:List Str).map V.str)):=by rw[t9 ec.symm,j3];rfl
  refine⟨kp,o,W1 g,(by rw[t9 ec,j3]),ci,?_⟩;generalize C3 (C3 (C3 H0 kp (.frz o (.dK (W1 g)))) pj (.lst [])) kp (.dK (W1 g))=Hz at Lz ed;refine⟨(by show 0<=j6;decide),λpr ef=>Qp (ss:=[]) (λs hs=>by cases hs) (u7.new ef _ _ ed) j3 ⟨_,rfl,?_⟩⟩;rw[show decide (([]:List Str)=[])=true from ZA rfl];exact⟨g,am,(Lz.same (u7.new ef)).w,O,bm,_,_,_,_,_,_,_,_,_,_,rfl⟩
 .exact q H
end
def eD (K:m9) (x:Str) (st:Stmt):Prop:=∃(f:Addr) (c:b9) (d:Option Addr) (kV b e:b9) (g:Option Addr) (a h:b9) (sl:Array (Option b9)),
 J7 K A1 x=some (some (.ref f))/\K.lookup f=some ⟨c,d,.func (dB x x (bI st) (Z4 st) (A0 st) .none kV b e g a h),sl⟩/\ic K a x=true/\aN K (.ref f)=true
variable {x:Str}{f:Addr}{oc doc pm ct:b9}{od an:Option Addr}
def F9 {st:Stmt}{kV:b9}{b:b9}{sl:Array (Option b9)}
  (a:J7 K A1 x=some (some (.ref f))) (l:K.lookup f=some ⟨oc,od,.func (dB x x (bI st) (Z4 st) (A0 st) .none kV doc pm an b ct),sl⟩) (c:ic K b x=true) (k:aN K (.ref f)=true):eD K x st :=
 ⟨f,oc,od,kV,doc,pm,an,b,ct,sl,a,l,c,k⟩
def Uc (K:m9) (x:Str) (st:Stmt) (T:Addr):Prop:=∃(f:Addr) (oc:b9) (od:Option Addr) (kV doc pm:b9) (an:Option Addr) (a:Addr) (ct:b9) (sl:Array (Option b9)),
 J7 K A1 x=some (some (.ref f))/\K.lookup f=some ⟨oc,od,.func (dB x x (bI st) (Z4 st) (A0 st) .none kV doc pm an (.ref a) ct),sl⟩/\ic K (.ref a) x=true/\aN K (.ref f)=true/\mD K a T=true/\K.lookup T=none
def MF {st:Stmt}{kV:b9}{b:Addr}{sl:Array (Option b9)}
  (a:J7 K A1 x=some (some (.ref f))) (l:K.lookup f=some ⟨oc,od,.func (dB x x (bI st) (Z4 st) (A0 st) .none kV doc pm an (.ref b) ct),sl⟩) (c:ic K (.ref b) x=true) (k:aN K (.ref f)=true) (t:mD K b T=true) (n:K.lookup T=none):Uc K x st T :=
 ⟨f,oc,od,kV,doc,pm,an,b,ct,sl,a,l,c,k,t,n⟩
variable {P:j0}{w:w5}{mg:Str->Option b9}{base h:Heap}{ps:List Str}{sp:Sp}
def N4 {st:Stmt}{k:Nat}(X:K.In h) (G:h.Ns A1 mg) (H:eD K x st)
  (d:∀(f:Addr) (b:C5),aU K x x st f b->cO K b ps []) (ok:∀(f:Addr) (b:C5),aU K x x st f b->K6 P w K mg base ee k f b ps sp):Y1 P w K mg base k x ps sp:=by
 obtain⟨f,oc,od,kV,doc,pm,an,e,ct,sl,a,l,c,kp⟩:=H;have F:=tR (st:=st) l c kp;exact⟨f,_,Y7 X G a,kp,d _ _ F,ok _ _ F⟩
def aI {st:Stmt}{k:Nat}(X:K.In h) (G:h.Ns A1 mg) (H:eD K x st)
  (d:∀(f:Addr) (b:C5),aU K x x st f b->cO K b ps []) (ok:∀(f:Addr) (b:C5),aU K x x st f b->K6 P w K mg base (fO P w) k f b ps sp):Z9 P w K mg base k x ps sp:=by
 obtain⟨f,oc,od,kV,doc,pm,an,e,ct,sl,a,l,c,kp⟩:=H;have F:=tR (st:=st) l c kp;exact⟨f,_,Y7 X G a,kp,d _ _ F,ok _ _ F⟩
def zj (K:m9) (B:Addr):List Addr->Bool
 | []=>true
 | C::cs=>Rj K C vE "ValueError.__new__"&&O6 K (.ref C) "__getattribute__" == some (some (.builtin "BaseException.__getattribute__"))&&O6 K (.ref C) "__getattr__" == some none&&pZ K (.ref C) (.type "BaseException") == some true&&(zT K C).isSome&&O6 K (.ref C) "__class__" == some (some (.builtin "object.__class__")) &&
   Ri K C (.type "object") == some true&&Ao K (.ref C) (.ref B) == some true&&dR K (.ref C) (.type "ValueError") == some true&&zj K B cs
def Tz (K:m9) (B:Addr):Bool:=oQ K (.builtin "object.__class__") "__get__" == some (some (.builtin "getset_descriptor.__get__"))&&FD K (.builtin "object.__class__") == some true&&pZ K (.ref B) (.type "BaseException") == some true
def errC (K:m9) (cs:List Addr):Bool:=(P0 10).all λi=>(P0 10).all λj=>dR K (.ref (cs.getD i 0)) (.ref (cs.getD j 0)) == some (decide (i=j))
theorem zi {K:m9}{B:Addr}:∀{cs:List Addr}{i:Nat},zj K B cs=true->i<cs.length->zj K B [cs.getD i 0]=true
 | C::cs,0,h,_=>by
  unfold zj at h;rw[A4] at h;unfold zj;rw[A4];exact⟨h.1,rfl⟩
 | C::cs,i+1,h,a=>by unfold zj at h;rw[A4] at h;have:=zi (cs:=cs) (i:=i) h.2 (by simpa using a);simpa using this
def ML {b a1 a2 a3 a4 a5 a6 a7 a8 a9 B:Addr} (X:K.In h) (G:h.Ns A1 mg)
  (e0:J7 K A1 "NoUrn"=some (some (.ref b))) (e1:J7 K A1 "NoRule"=some (some (.ref a1))) (e2:J7 K A1 "NoKind"=some (some (.ref a2))) (e3:J7 K A1 "NoBall"=some (some (.ref a3))) (e4:J7 K A1 "NoDraws"=some (some (.ref a4)))
  (e5:J7 K A1 "NoNumber"=some (some (.ref a5))) (e6:J7 K A1 "NotEven"=some (some (.ref a6))) (e7:J7 K A1 "NoCounts"=some (some (.ref a7))) (e8:J7 K A1 "NotAlike"=some (some (.ref a8))) (e9:J7 K A1 "BadNote"=some (some (.ref a9)))
  (eb:J7 K A1 "UrnError"=some (some (.ref B))) (e:zj K B [b,a1,a2,a3,a4,a5,a6,a7,a8,a9]=true) (d:Tz K B=true) (g:errC K [b,a1,a2,a3,a4,a5,a6,a7,a8,a9]=true):
  oJ K mg (λi=>[b,a1,a2,a3,a4,a5,a6,a7,a8,a9].getD i 0) B:=by
 unfold Tz at d;simp only[A4,Zs] at d;obtain⟨⟨b1,b2⟩,b3⟩:=d;have A:∀i,i<10->_:=λi a=>zi (i:=i) e a;have c:∀i,i<10->((((((((Rj K ([b,a1,a2,a3,a4,a5,a6,a7,a8,a9].getD i 0) vE "ValueError.__new__"=true/\O6 K (.ref ([b,a1,a2,a3,a4,a5,a6,a7,a8,a9].getD i 0)) "__getattribute__"=some (some (.builtin "BaseException.__getattribute__")))/\O6 K (.ref ([b,a1,a2,a3,a4,a5,a6,a7,a8,a9].getD i 0)) "__getattr__"=some none)/\pZ K (.ref ([b,a1,a2,a3,a4,a5,a6,a7,a8,a9].getD i 0)) (.type "BaseException")=some true)/\(zT K ([b,a1,a2,a3,a4,a5,a6,a7,a8,a9].getD i 0)).isSome=true) /\
   O6 K (.ref ([b,a1,a2,a3,a4,a5,a6,a7,a8,a9].getD i 0)) "__class__"=some (some (.builtin "object.__class__")))/\Ri K ([b,a1,a2,a3,a4,a5,a6,a7,a8,a9].getD i 0) (.type "object")=some true)/\Ao K (.ref ([b,a1,a2,a3,a4,a5,a6,a7,a8,a9].getD i 0)) (.ref B)=some true) /\
   dR K (.ref ([b,a1,a2,a3,a4,a5,a6,a7,a8,a9].getD i 0)) (.type "ValueError")=some true):=λi a=>by
  have z:=A i a;unfold zj at z;rw[A4] at z;have z1:=z.1;simp only[A4,Zs] at z1;exact z1
 exact⟨Y7 X G e0,Y7 X G e1,Y7 X G e2,Y7 X G e3,Y7 X G e4,Y7 X G e5,Y7 X G e6,Y7 X G e7,Y7 X G e8,Y7 X G e9,Y7 X G eb,
  λi a=>(c i a).1.1.1.1.1.1.1.1,λi a=>⟨(c i a).1.1.1.1.1.1.1.2,(c i a).1.1.1.1.1.1.2,(c i a).1.1.1.1.1.2,(c i a).1.1.1.1.2,(c i a).1.1.1.2,b1,b2,(c i a).1.1.2⟩,λi a=>(c i a).1.2,b3,
  λi j a k=>by have z:=kF.mp (kF.mp g i (ZT.mpr a)) j (ZT.mpr k);exact Zs.mp z,λi a=>(c i a).2⟩
variable {es:Array J2}{n:Nat}
def Jh {dl:Addr}(X:K.In h) (G:h.Ns A1 mg) (a:J7 K A1 "LINES"=some (some (.ref dl)))
  (l:K.lookup dl=some ⟨.type "dict",none,.dict es n,#[]⟩) (s:(dl == R4)=false) (k:RS w.params es.toList):xD K w mg dl (λx=>uv W9 es x):=
 ⟨Y7 X G a,⟨s,es,n,l,k,λ_=>rfl⟩⟩
def iJ {dl t:Addr}{m:Nat}{a:Str}{fos:List Str}{b:Array b9}{sl:Array (Option b9)} (l:K.lookup dl=some ⟨.type "dict",none,.dict es n,#[]⟩)
  (e:J7 K dl a=some (some (.ref t))) (lt:K.lookup t=some ⟨.type "tuple",od,.seq b m,sl⟩) (z:b.size<=j6) (v:J9 (fos.map V.str) b.toList):DE K (λx=>uv W9 es x) a fos :=
 ⟨t,W.find_K l e,λH=>.inr ⟨_,b,m,lt,rfl,rfl,z,v⟩⟩
def MJ(h:es.toList.all (λe=>vh.any λr=>W9 r.1 e.key)=true)  (b:fA a=none):uv W9 es a=none:=by
 unfold uv;rw[zZ,<- Gj,Ko];intro e c d;obtain⟨r,g,i⟩:=ZJ.mp (kF.mp h e c);obtain⟨t,e1⟩:=aR (x:=r.1) (v:=e.key) i;obtain⟨u,e2⟩:=aR (x:=a) (v:=e.key) d;rw[e1] at e2;injection e2 with e3 _
 unfold fA at b;rw[zZ,Ko] at b;exact b r g (by rw[e3];exact ZA rfl)
def JJ {f:Str->Option b9} (h:∀r∈vh,DE K f r.1 r.2) {a:Str}{fos:List Str} (c:fA a=some fos):DE K f a fos:=by unfold fA at c;obtain⟨r,d,e⟩:=Zt.mp c;have g:=jB d;have b:=List.find?_some (p:=λr:Str × List Str=>decide (r.1=a)) d;have i:=Zx b;rw[<- i,<- e];exact h r g
def BH {dl t0 t1 t2 t3 t4 t5 t6 t7:Addr}{m0 m1 m2 m3 m4 m5 m6 m7:Nat}{t u v y z A B C:Option Addr}{c d g i m o p q:Array b9}{D E H I J L M N:Array (Option b9)} (X:K.In h) (G:h.Ns A1 mg) (a:J7 K A1 "LINES"=some (some (.ref dl)))
  (l:K.lookup dl=some ⟨.type "dict",none,.dict es n,#[]⟩) (s:(dl == R4)=false) (k:RS w.params es.toList) (kw:es.toList.all (λe=>vh.any λr=>W9 r.1 e.key)=true)
  (e0:J7 K dl "urn"=some (some (.ref t0))) (O:K.lookup t0=some ⟨.type "tuple",t,.seq c m0,D⟩) (z0:c.size<=j6) (v0:J9 [.str "name",.str "urn"] c.toList)
  (e1:J7 K dl "draw"=some (some (.ref t1))) (Q:K.lookup t1=some ⟨.type "tuple",u,.seq d m1,E⟩) (z1:d.size<=j6) (v1:J9 [.str "name",.str "rule",.str "figure",.str "name"] d.toList)
  (e2:J7 K dl "kept"=some (some (.ref t2))) (R:K.lookup t2=some ⟨.type "tuple",v,.seq g m2,H⟩) (z2:g.size<=j6) (v2:J9 [] g.toList)
  (e3:J7 K dl "show"=some (some (.ref t3))) (S:K.lookup t3=some ⟨.type "tuple",y,.seq i m3,I⟩) (z3:i.size<=j6) (v3:J9 [.str "name"] i.toList)
  (e4:J7 K dl "chance"=some (some (.ref t4))) (V:K.lookup t4=some ⟨.type "tuple",z,.seq m m4,J⟩) (z4:m.size<=j6) (v4:J9 [.str "name",.str "figure"] m.toList)
  (e5:J7 K dl "stands"=some (some (.ref t5))) (Y:K.lookup t5=some ⟨.type "tuple",A,.seq o m5,L⟩) (z5:o.size<=j6) (v5:J9 [.str "name",.str "rule",.str "figure"] o.toList)
  (e6:J7 K dl "mean"=some (some (.ref t6))) (Z:K.lookup t6=some ⟨.type "tuple",B,.seq p m6,M⟩) (z6:p.size<=j6) (v6:J9 [.str "name",.str "rule",.str "figure"] p.toList)
  (e7:J7 K dl "fair"=some (some (.ref t7))) (a0:K.lookup t7=some ⟨.type "tuple",C,.seq q m7,N⟩) (z7:q.size<=j6) (v7:J9 [.str "name",.str "rule"] q.toList):
  xD K w mg dl (λx=>uv W9 es x)/\Kd K (λx=>uv W9 es x):=⟨Jh X G a l s k,λb hb=>MJ kw hb,λb a1 hb=>JJ (λr hr=>by
  simp only[vh,C7,B7,or_false] at hr;obtain rfl|rfl|rfl|rfl|rfl|rfl|rfl|rfl:=hr
  .exact iJ (fos:=["name","urn"]) l e0 O z0 v0
  .exact iJ (fos:=["name","rule","figure","name"]) l e1 Q z1 v1
  .exact iJ (fos:=[]) l e2 R z2 v2
  .exact iJ (fos:=["name"]) l e3 S z3 v3
  .exact iJ (fos:=["name","figure"]) l e4 V z4 v4
  .exact iJ (fos:=["name","rule","figure"]) l e5 Y z5 v5
  .exact iJ (fos:=["name","rule","figure"]) l e6 Z z6 v6
  .exact iJ (fos:=["name","rule"]) l e7 a0 z7 v7) hb⟩
def Ci (K:m9) (C:Addr) (x a:Str) (st:Stmt):Prop:=∃(f:Addr) (oc:b9) (od:Option Addr) (kV doc pm:b9) (an:Option Addr) (b ct:b9) (sl:Array (Option b9)),
 O6 K (.ref C) x=some (some (.ref f))/\Om K (.ref f)=true/\K.lookup f=some ⟨oc,od,.func (dB x a (bI st) (Z4 st) (A0 st) .none kV doc pm an b ct),sl⟩/\ic K b a=true/\aN K (.ref f)=true
variable {C:Addr}{qual:Str}
def rA {st:Stmt}{kV:b9}{b:b9}{sl:Array (Option b9)}
  (a:O6 K (.ref C) x=some (some (.ref f))) (d:Om K (.ref f)=true) (l:K.lookup f=some ⟨oc,od,.func (dB x qual (bI st) (Z4 st) (A0 st) .none kV doc pm an b ct),sl⟩) (c:ic K b qual=true) (k:aN K (.ref f)=true):Ci K C x qual st :=
 ⟨f,oc,od,kV,doc,pm,an,b,ct,sl,a,d,l,c,k⟩
def Dz {st:Stmt}{k:Nat}(H:Ci K C x qual st)
  (d:∀(f:Addr) (b:C5),aU K x qual st f b->cO K b ps []) (ok:∀(f:Addr) (b:C5),aU K x qual st f b->K6 P w K mg base ee k f b ps sp):xH P w K mg base C k x ps sp:=by
 obtain⟨f,oc,od,kV,doc,pm,an,e,ct,sl,a,g,l,c,kp⟩:=H;have F:=tR (st:=st) l c kp;exact⟨f,_,⟨a,g,kp⟩,d _ _ F,ok _ _ F⟩
def MU {k:Nat}(b:mg x=some (.ref C)) (mk:FE K C=true) (kp:aN K (.ref C)=true) (M:xH P w K mg base C k "__init__" ps sp):FC P w K mg base C k x ps sp:=by obtain⟨f,c,a,d,F⟩:=M.ex;exact⟨f,c,⟨mk,a.at_,a.fn,kp⟩,b,d,F⟩
def zF {st:Stmt}{k:Nat}(H:Ci K C x qual st)
  (d:∀(f:Addr) (b:C5),aU K x qual st f b->cO K b ps []) (ok:∀(f:Addr) (b:C5),aU K x qual st f b->K6 P w K mg base (fO P w) k f b ps sp):lx P w K mg base C k x ps sp:=by
 obtain⟨f,oc,od,kV,doc,pm,an,e,ct,sl,a,g,l,c,kp⟩:=H;have F:=tR (st:=st) l c kp;exact⟨f,_,⟨a,g,kp⟩,d _ _ F,ok _ _ F⟩
section
variable {K:m9}{x qual:Str}{st:Stmt}{p q r:Str}
def b1 (h:∀(kV doc pm:b9) (an:Option Addr) (i ct u:b9),mC (dB x qual (bI st) (Z4 st) (A0 st) .none kV doc pm an i ct) ⟨[u],[]⟩=pure [(p,u)]):∀(f:Addr) (k:C5),aU K x qual st f k->cO K k [p] []:=λf k F=>F.binds λa b c d e g l m=>match l,m with | [u],_=>h a b c d e g u
def b2 (h:∀(kV doc pm:b9) (an:Option Addr) (i ct u v:b9),mC (dB x qual (bI st) (Z4 st) (A0 st) .none kV doc pm an i ct) ⟨[u,v],[]⟩=pure [(p,u),(q,v)]):∀(f:Addr) (k:C5),aU K x qual st f k->cO K k [p,q] []:=λf k F=>F.binds λa b c d e g l m=>match l,m with | [u,v],_=>h a b c d e g u v
def b3 (h:∀(kV doc pm:b9) (an:Option Addr) (i ct u v w:b9),mC (dB x qual (bI st) (Z4 st) (A0 st) .none kV doc pm an i ct) ⟨[u,v,w],[]⟩=pure [(p,u),(q,v),(r,w)]):∀(f:Addr) (k:C5),aU K x qual st f k->cO K k [p,q,r] []:=λf k F=>F.binds λa b c d e g l m=>match l,m with | [u,v,w],_=>h a b c d e g u v w
end
def QU {l:RQ}{fa Bs dl CD:Addr}{c:Nat->Addr}{fL:Str->Option b9} (X:K.In h) (G:h.Ns A1 mg) (c0:mg "law"=some (.ref fa)) (R:oJ K mg c Bs) (LL:xD K w mg dl fL/\Kd K fL)
  (bu:J7 K A1 "Desk"=some (some (.ref CD))) (D:ud K CD) (c1:FE K CD=true) (c2:aN K (.ref CD)=true)
  (h1:eD K "is_number" kP) (h2:eD K "is_whole" mM) (h3:eD K "are_wholes" jM) (h4:eD K "is_urn_up_to" gQ) (h5:eD K "is_urn" su) (h6:eD K "need_number" iU) (h7:eD K "is_rule" pD) (h8:eD K "need_urn" mK) (h9:eD K "need_rule" kO) (c3:eD K "need_urn_and_rule" Hr) (c4:eD K "greatest_divisor" Pn) (c5:eD K "fraction" mO) (c6:eD K "times" wG) (c7:eD K "plus" AZ) (c8:eD K "total" wF) (c9:eD K "share" wI) (ca:eD K "put_in" so) (cb:eD K "own_urn" pC) (cd:eD K "urns_behind_one" GX) (ce:eD K "next_chances" wK) (ch:eD K "stands" Pf) (ci:eD K "mean_balls" Pl) (ck:eD K "mean" Pk) (cl:eD K "numbers_text" Ph) (co:eD K "urn_text" Pd) (cp:eD K "fraction_text" Po) (cr:eD K "need_text" Hs) (cv:eD K "numbers_read" Pj) (d0:eD K "urn_read" Pe) (d1:eD K "rule_read" Pg) (d2:eD K "name_read" Hu) (d3:eD K "figure_read" HC) (d4:eD K "any_rule_read" HG) (d5:eD K "word_read" Pc) (d6:eD K "line_read" Pm) (d7:eD K "answer" HH) (db:eD K "_law_cell_at" pE) (dg:eD K "_law_state" wH) (dk:eD K "_law_take" AY) (dn:eD K "_law_urn" Ba) (dp:eD K "_law_rule" wL) (dr:eD K "_law_refused" pB) (ds:eD K "_law_urn_text" Hw) (dt:eD K "_law_rule_text" Hy) (dv:eD K "_law_fraction_text" HB) (dx:eD K "_law_name" HA) (dy:eD K "_law_spoiled" GZ) (e0:eD K "_law_named" Hv) (e1:eD K "_law_no_rule" Ht) (e2:eD K "_law_no_urn" wJ) (e3:eD K "_law_blanks" HF) (e4:eD K "_law_bad_lines" HD) (e5:eD K "_law_answers_right" Pp)
  (e6:Ci K CD "__init__" "Desk.__init__" Bc) (e7:Ci K CD "urn_by_name" "Desk.urn_by_name" GY) (e8:Ci K CD "keep" "Desk.keep" Bb) (e9:Ci K CD "say" "Desk.say" Hq)
  (bv:Uc K "law" sr T)
  (z1:J7 K A1 "isinstance"=some none) (z2:J7 K A1 "bool"=some none) (z3:J7 K A1 "int"=some none) (z4:J7 K A1 "tuple"=some none) (z5:J7 K A1 "list"=some none) (z6:J7 K A1 "all"=some none) (z7:J7 K A1 "sum"=some none) (z8:J7 K A1 "len"=some none) (z9:J7 K A1 "range"=some none) (z10:J7 K A1 "max"=some none) (z11:J7 K A1 "min"=some none) (z12:J7 K A1 "abs"=some none) (z13:J7 K A1 "zip"=some none) (z14:J7 K A1 "str"=some none) (z15:J7 K A1 "enumerate"=some none) (z16:J7 K A1 "sorted"=some none) (zV:J7 K A1 "ValueError"=some none)
  {t1:Tok} (m1:J7 K A1 "MOST_KINDS"=some (some (.int 4 t1))) {t2:Tok} (m2:J7 K A1 "MOST_BALLS"=some (some (.int 20 t2))) {t3:Tok} (m3:J7 K A1 "MOST_PUT_IN"=some (some (.int 5 t3))) {t4:Tok} (m4:J7 K A1 "MOST_STAND_DRAWS"=some (some (.int 6 t4))) {tl:Tok} (ml:J7 K A1 "MOST_LETTERS"=some (some (.int 8 tl))) {tf:Tok} (mf:J7 K A1 "FIGURES"=some (some (.str "0123456789" tf))):
  ∃fd:C5,(∀(s:d9) (v:b9),vY s fd ⟨[v],[]⟩ [("_law_script",v)])/\(K.lookup T=none/\∃cc,mD K cc T=true)/\∀base:Heap,K.In base->base.Ns A1 mg->base.BuiltinsAt mg T->K6 l.prog w K mg base ee 14 fa fd ["_law_script"] (CC K T):=by
 obtain⟨L,LT⟩:=LL;obtain⟨f,oc,od,kV,doc,pm,an,cc,ct,sl,a,lk,c',kp,bx,ea⟩:=bv;have e:=c0.symm.trans (Y7 X G a);cases e;have F:=tR (st:=sr) lk c' kp;have B:Bt mg:=⟨N3 X G z1,N3 X G z2,N3 X G z3,N3 X G z4,N3 X G z5,N3 X G z6,N3 X G z7,N3 X G z8,N3 X G z9,N3 X G z10,N3 X G z11,N3 X G z12,N3 X G z13⟩
 have B2:KD mg:=⟨N3 X G z14⟩
 have B3:Ue mg:=⟨N3 X G z15,N3 X G z16⟩
 have C:Ct mg:=⟨⟨_,Y7 X G m1⟩,⟨_,Y7 X G m2⟩,⟨_,Y7 X G m3⟩⟩
 have C2:Ct2 mg:=⟨⟨_,Y7 X G m4⟩⟩
 have CK:CtK mg:=⟨⟨_,Y7 X G ml⟩,⟨_,Y7 X G mf⟩⟩
 have eb:=N3 X G zV;refine⟨dB "law" "law" (bI sr) (Z4 sr) (A0 sr) .none kV doc pm an (.ref cc) ct,λs v=>.of_eq rfl,⟨ea,cc,bx⟩,λbase ec _ ed=>?_⟩;have a8:Y1 l.prog w K mg base 0 "is_number" ["thing"] jL:=N4 X G h1 (b1 λ_ _ _ _ _ _ _=>rfl) (λ_ _ F=>xg F B);have M:Y1 l.prog w K mg base 1 "is_whole" ["thing","low","high"] iz:=N4 X G h2 (b3 λ_ _ _ _ _ _ _ _ _=>rfl) (λ_ _ F=>yQ F a8);have u:Y1 l.prog w K mg base 2 "are_wholes" ["thing","low","high"] fi:=N4 X G h3 (b3 λ_ _ _ _ _ _ _ _ _=>rfl) (λ_ _ F=>uE F B M);have O:Y1 l.prog w K mg base 3 "is_urn_up_to" ["thing","most"] fJ:=N4 X G h4 (b2 λ_ _ _ _ _ _ _ _=>rfl) (λ_ _ F=>qS F B C u);have E:Y1 l.prog w K mg base 4 "is_urn" ["thing"] jo:=N4 X G h5 (b1 λ_ _ _ _ _ _ _=>rfl) (λ_ _ F=>ED F C O);have d:Z9 l.prog w K mg base 2 "need_number" ["thing","low","high"] (bU c):=aI X G h6 (b3 λ_ _ _ _ _ _ _ _ _=>rfl) (λ_ _ F=>sL F R M);have a1:Z9 l.prog w K mg base 3 "is_rule" ["kinds","thing"] (jK c):=aI X G h7 (b2 λ_ _ _ _ _ _ _ _=>rfl) (λ_ _ F=>Bq F B C u d);have N:Z9 l.prog w K mg base 5 "need_urn" ["thing"] (iy c):=aI X G h8 (b1 λ_ _ _ _ _ _ _=>rfl) (λ_ _ F=>yP F R E);have a9:Z9 l.prog w K mg base 4 "need_rule" ["kinds","thing"] (jJ c):=aI X G h9 (b2 λ_ _ _ _ _ _ _ _=>rfl) (λ_ _ F=>xa F R a1);have r:Z9 l.prog w K mg base 6 "need_urn_and_rule" ["urn","rule"] (AF c):=aI X G c3 (b2 λ_ _ _ _ _ _ _ _=>rfl) (λ_ _ F=>PZ F B N a9);have t:Y1 l.prog w K mg base 1 "greatest_divisor" ["one","other"] GJ:=N4 X G c4 (b2 λ_ _ _ _ _ _ _ _=>rfl) (λ_ _ F=>Tf F B);have g:Y1 l.prog w K mg base 2 "fraction" ["top","bottom"] cX:=N4 X G c5 (b2 λ_ _ _ _ _ _ _ _=>rfl) (λ_ _ F=>yR F t);have ar:Y1 l.prog w K mg base 3 "times" ["one","other"] nZ:=N4 X G c6 (b2 λ_ _ _ _ _ _ _ _=>rfl) (λ_ _ F=>IE F g);have bb:Y1 l.prog w K mg base 3 "plus" ["one","other"] rl:=N4 X G c7 (b2 λ_ _ _ _ _ _ _ _=>rfl) (λ_ _ F=>Ma F g);have bm:Y1 l.prog w K mg base 4 "total" ["fractions"] rW:=N4 X G c8 (b1 λ_ _ _ _ _ _ _=>rfl) (λ_ _ F=>IC F bb);have bz:Y1 l.prog w K mg base 3 "share" ["urn","kind"] yt:=N4 X G c9 (b2 λ_ _ _ _ _ _ _ _=>rfl) (λ_ _ F=>IH F B g);have be:Y1 l.prog w K mg base 1 "put_in" ["urn","rule","kind"] pq:=N4 X G ca (b3 λ_ _ _ _ _ _ _ _ _=>rfl) (λ_ _ F=>EC F B);have b5:Y1 l.prog w K mg base 1 "own_urn" ["urn"] mI:=N4 X G cb (b1 λ_ _ _ _ _ _ _=>rfl) (λ_ _ F=>Bp F B);have z:Y1 l.prog w K mg base 2 "urns_behind_one" ["urn","rule"] AC:=N4 X G cd (b2 λ_ _ _ _ _ _ _ _=>rfl) (λ_ _ F=>PQ F B3 be);have Q:Y1 l.prog w K mg base 4 "next_chances" ["chances","rule"] se:=N4 X G ce (b2 λ_ _ _ _ _ _ _ _=>rfl) (λ_ _ F=>IJ F B z ar g bb);have H:Z9 l.prog w K mg base 7 "stands" ["urn","rule","draws"] (yr c):=aI X G ch (b3 λ_ _ _ _ _ _ _ _ _=>rfl) (λ_ _ F=>SX F B B3 C2 r d b5 Q);have a6:Y1 l.prog w K mg base 5 "mean_balls" ["behind","kind"] GH:=N4 X G ci (b2 λ_ _ _ _ _ _ _ _=>rfl) (λ_ _ F=>Td F bm ar);have bc:Z9 l.prog w K mg base 8 "mean" ["urn","rule","draws"] (CB c):=aI X G ck (b3 λ_ _ _ _ _ _ _ _ _=>rfl) (λ_ _ F=>Tc F B H a6);have S:Y1 l.prog w K mg base 1 "numbers_text" ["numbers"] rZ:=N4 X G cl (b1 λ_ _ _ _ _ _ _=>rfl) (λ_ _ F=>Ta F B2);have ax:Y1 l.prog w K mg base 6 "urn_text" ["urn"] GD:=N4 X G co (b1 λ_ _ _ _ _ _ _=>rfl) (λ_ _ F=>SU F N (S.up (by decide)));have I:Y1 l.prog w K mg base 1 "fraction_text" ["fraction"] pA:=N4 X G cp (b1 λ_ _ _ _ _ _ _=>rfl) (λ_ _ F=>Qj F B2);have m:Z9 l.prog w K mg base 1 "need_text" ["thing"] (rY c):=aI X G cr (b1 λ_ _ _ _ _ _ _=>rfl) (λ_ _ F=>Qa F B B2 R);have o:Y1 l.prog w K mg base 1 "numbers_read" ["text","most"] CA:=N4 X G cv (b2 λ_ _ _ _ _ _ _ _=>rfl) (λ_ _ F=>Tb F B B2);have ay:Z9 l.prog w K mg base 6 "urn_read" ["text"] (GF c):=aI X G d0 (b1 λ_ _ _ _ _ _ _=>rfl) (λ_ _ F=>SV F C R (m.up (by decide)) (o.up (by decide)) (E.up (by decide)));have ab:Z9 l.prog w K mg base 6 "rule_read" ["kinds","text"] (GG c):=aI X G d1 (b2 λ_ _ _ _ _ _ _ _=>rfl) (λ_ _ F=>SZ F B C R (d.up (by decide)) (m.up (by decide)) (o.up (by decide)) (a1.up (by decide)));have ac:Z9 l.prog w K mg base 1 "name_read" ["word"] (AG c):=aI X G d2 (b1 λ_ _ _ _ _ _ _=>rfl) (λ_ _ F=>Qc F B CK R);have a2:Z9 l.prog w K mg base 1 "figure_read" ["word"] (AI c):=aI X G d3 (b1 λ_ _ _ _ _ _ _=>rfl) (λ_ _ F=>Qk F B CK R);have J:Z9 l.prog w K mg base 7 "any_rule_read" ["word"] (AM c):=aI X G d4 (b1 λ_ _ _ _ _ _ _=>rfl) (λ_ _ F=>Qn F C R ab);have ad:Z9 l.prog w K mg base 8 "word_read" ["form","word"] (GC c):=aI X G d5 (b2 λ_ _ _ _ _ _ _ _=>rfl) (λ_ _ F=>SS F ac ay a2 J);have al:Z9 l.prog w K mg base 9 "line_read" ["line"] (GI c):=aI X G d6 (b1 λ_ _ _ _ _ _ _=>rfl) (λ_ _ F=>Te F B R L LT m ad);have bi:Z9 l.prog w K mg base 10 "answer" ["asked","urn","others"] (AN c):=aI X G d7 (b3 λ_ _ _ _ _ _ _ _ _=>rfl) (λ_ _ F=>Qo F B B2 ax I H bc);have V:Y1 l.prog w K mg base 1 "_law_cell_at" ["_law_script","_law_k"] (mJ K):=N4 X G db (b2 λ_ _ _ _ _ _ _ _=>rfl) (λ_ _ F=>Br F B);have a7:Y1 l.prog w K mg base 2 "_law_state" ["_law_script","_law_k"] (rX K):=N4 X G dg (b2 λ_ _ _ _ _ _ _ _=>rfl) (λ_ _ F=>IG F V);have b:Y1 l.prog w K mg base 1 "_law_take" ["_law_state_here","_law_many"] gr:=N4 X G dk (b2 λ_ _ _ _ _ _ _ _=>rfl) (λ_ _ F=>LZ F );have b0:Y1 l.prog w K mg base 2 "_law_urn" ["_law_state_here","_law_kinds"] wm:=N4 X G dn (b2 λ_ _ _ _ _ _ _ _=>rfl) (λ_ _ F=>Mb F B b);have am:Y1 l.prog w K mg base 2 "_law_rule" ["_law_state_here","_law_kinds"] sf:=N4 X G dp (b2 λ_ _ _ _ _ _ _ _=>rfl) (λ_ _ F=>IK F B b);have Y:Y1 l.prog w K mg base 13 "_law_refused" ["_law_call"] (jI l.prog w K mg base 12 c):=N4 X G dr (b1 λ_ _ _ _ _ _ _=>rfl) (λ_ _ F=>Bo F B R eb);have k:Y1 l.prog w K mg base 1 "_law_urn_text" ["_law_urn_here"] rZ:=N4 X G ds (b1 λ_ _ _ _ _ _ _=>rfl) (λ_ _ F=>Qe F B2);have i:Y1 l.prog w K mg base 2 "_law_rule_text" ["_law_rule_here"] Cz:=N4 X G dt (b1 λ_ _ _ _ _ _ _=>rfl) (λ_ _ F=>Qf F k);have p:Y1 l.prog w K mg base 1 "_law_fraction_text" ["_law_part"] pA:=N4 X G dv (b1 λ_ _ _ _ _ _ _=>rfl) (λ_ _ F=>Qh F B2);have ap:Y1 l.prog w K mg base 2 "_law_name" ["_law_state_here"] AH:=N4 X G dx (b1 λ_ _ _ _ _ _ _=>rfl) (λ_ _ F=>Qg F B b);have Z:Y1 l.prog w K mg base 2 "_law_spoiled" ["_law_state_here","_law_name_here"] AE:=N4 X G dy (b2 λ_ _ _ _ _ _ _ _=>rfl) (λ_ _ F=>PU F B b);have y:Y1 l.prog w K mg base 1 "_law_named" ["_law_name_here","_law_other","_law_rule_here"] wk:=N4 X G e0 (b3 λ_ _ _ _ _ _ _ _ _=>rfl) (λ_ _ F=>Qd F );have a0:Y1 l.prog w K mg base 2 "_law_no_rule" ["_law_state_here","_law_rule_here"] (lL jQ):=N4 X G e1 (b2 λ_ _ _ _ _ _ _ _=>rfl) (λ_ _ F=>Qb F b);have a3:Y1 l.prog w K mg base 2 "_law_no_urn" ["_law_state_here","_law_text"] (lL mS):=N4 X G e2 (b2 λ_ _ _ _ _ _ _ _=>rfl) (λ_ _ F=>II F b);have a4:Y1 l.prog w K mg base 1 "_law_blanks" ["_law_line"] AL:=N4 X G e3 (b1 λ_ _ _ _ _ _ _=>rfl) (λ_ _ F=>Qm F );have A:Y1 l.prog w K mg base 3 "_law_bad_lines" ["_law_state_here","_law_name_here","_law_bad","_law_lost","_law_text","_law_rule_here"] AJ:=N4 X G e4 (λf fd F=>F.binds (ps:=["_law_state_here","_law_name_here","_law_bad","_law_lost","_law_text","_law_rule_here"]) λ_ _ _ _ _ _ us hl=>match us,hl with | [_,_,_,_,_,_],_=>rfl) (λ_ _ F=>Ql F a3 (y.up (by decide)) a0 (a4.up (by decide)));have b4:xH l.prog w K mg base CD 1 "__init__" ["self"] (wt CD):=Dz e6 (b1 λ_ _ _ _ _ _ _=>rfl) (λ_ _ F=>Me F D);have a5:lx l.prog w K mg base CD 1 "urn_by_name" ["self","name"] (AD CD c):=zF e7 (b2 λ_ _ _ _ _ _ _ _=>rfl) (λ_ _ F=>PR F D R);have bn:xH l.prog w K mg base CD 5 "keep" ["self","name","urn"] (wq CD):=Dz e8 (b3 λ_ _ _ _ _ _ _ _ _=>rfl) (λ_ _ F=>Mc F D E);have b6:lx l.prog w K mg base CD 11 "say" ["self","line"] (kN CD c):=zF e9 (b2 λ_ _ _ _ _ _ _ _=>rfl) (λ_ _ F=>PV F D B3 al bn a5 bi);have q:Y1 l.prog w K mg base 12 "_law_answers_right" ["_law_desk","_law_name_here","_law_urn_here","_law_rule_here"] (GK CD):=N4 X G e5 (λf fd F=>F.binds (ps:=["_law_desk","_law_name_here","_law_urn_here","_law_rule_here"]) λ_ _ _ _ _ _ us hl=>match us,hl with | [_,_,_,_],_=>rfl) (λ_ _ F=>Tg F B B2 D (i.up (by decide)) (p.up (by decide)) (H.up (by decide)) (bc.up (by decide)) b6);exact Qi F B B2 B3 D ⟨(a7.up (by decide)),(b.up (by decide)),(ap.up (by decide)),(b0.up (by decide)),(am.up (by decide)),(k.up (by decide)),(i.up (by decide)),(Z.up (by decide)),(A.up (by decide)),(y.up (by decide)),(q.up (by decide)),Y,(MU (Y7 X G bu) c1 c2 b4).up (by decide),b6.up (by decide),b6⟩ ⟨cc,rfl,bx⟩ ec ed
def walk {l:RQ}{q:j0}{loose:List Str}{m:(Str->Option b9)->Heap->Prop}{i:w5->Heap->Prop}{d:DefRec}{K:Params->m9}(o:l.most=some 63) (k:d.params.defaults=[])
  (p:∀(w:w5) (h:Heap),i w h->(K w.params).In h) (hT:∀(w:w5) (h:Heap),i w h->∀t∈[T],h.get? t=some (KR #[]))
  (F:∀(w:w5) (mg:Str->Option b9) (b:Addr) (h:Heap),(K w.params).In h->h.Ns A1 mg->mg d.name=some (.ref b) ->
   ∃g:C5,(∀(s:d9) (u:b9),vY s g ⟨[u],[]⟩ [("_law_script",u)])/\((K w.params).lookup T=none/\∃c,mD (K w.params) c T=true)/\∀base:Heap,(K w.params).In base->base.Ns A1 mg->base.BuiltinsAt mg T->K6 l.prog w (K w.params) mg base ee 14 b g ["_law_script"] (CC (K w.params) T)):
  W.WalkO q loose m i l.row.toRowW d [] (λf r=>FX f r):=
 L2.Gn (n:=63) (k:=14) (x:="_law_script") (ts:=[T]) (sp:=λw=>CC (K w.params) T) o (by decide) k ⟨rfl,by decide,by decide⟩ p hT
  (λw mg b h y ns z=>by obtain⟨g,b1,b2,b3⟩:=F w mg b h y ns z;exact⟨g,b1,λt A=>by rw[ZZ.mp A];exact b2,λbase k1 k2 k3=>b3 base k1 k2 (k3 T (ZZ.mpr rfl))⟩)
  (λ_ _ a ns B D E=>⟨a,ns,rfl,E,B,⟨#[],D.2 T (ZZ.mpr rfl),trivial,λH v e=>by cases e⟩,λ_=>rfl⟩)
end G
namespace PySem.Challenge.cw_growurns_k96_names_and_many_urns_at_a_de_holds
def tw7547334912993870931:=()
def tw1670351339306733684:=()
def tw4125465806928849238:=()
def tw11760597958954339973:=()
def tw12475615106519440692:=()
def tw7966348919721134598:=()
def tw16678796427081540264:=()
def tw17567299760740625166:=()
def tw15599958682768783967:=()
def tw6474860042298307838:=()
def tw14070316499854811586:=()
def tw2577811108941676709:=()
def tw8786686013352569314:=()
def tw9669196970859433223:=()
def tw6562755156602584425:=()
def tw15435142882988089364:=()
def tw17565981429670312905:=()
def tw8334312642829709051:=()
def tw10058885601280922355:=()
def tw6192244231750947566:=()
def tw262999446411828135:=()
def tw14896907405004930300:=()
def tw6805059032538921094:=()
def tw13723814268243527698:=()
def tw14395887885272577868:=()
def tw10263635853359386980:=()
def tw13765060481691985023:=()
def tw14406459760935356859:=()
def tw10371323625186702559:=()
def tw7844933763078257489:=()
def tw13273541082458466888:=()
def tw1902406203716893395:=()
def tw9540373195645760821:=()
def tw2725443686601242696:=()
def tw9368080189278290020:=()
def tw78965037041971782:=()
def tw14988665483773662046:=()
def tw12811546320018759500:=()
def tw13989835098954021269:=()
def tw6647385549240626643:=()
def tw4775530911456023379:=()
def tw643457939321224090:=()
def tw15806799184390322068:=()
def tw15547160023400900837:=()
def tw7633746581384327599:=()
def tw16213531110549113548:=()
def tw7303105216833442855:=()
def tw6290589516390479480:=()
def tw3408709595383401026:=()
def tw11324771714813810826:=()
def tw5207659668333741288:=()
def tw10541329609802154145:=()
def tw1861589687002376382:=()
def tw6627677523942830942:=()
def tw13288534012126071537:=()
def tw9511648733308925150:=()
def tw1904073805731813068:=()
def tw18414178359371541911:=()
def tw6787268586062994219:=()
def tw17801540323198456998:=()
def tw17393677354591031601:=()
def tw13169488719248793569:=()
def tw9319590468773676285:=()
def tw11697424584267684378:=()
def tw2800266959551865245:=()
def tw11401673430850373719:=()
def tw6106373778587430716:=()
def tw5435163824690108472:=()
def tw2810117659142385085:=()
def tw17242382661837357215:=()
def tw11260345588579060098:=()
def tw15037282388418236226:=()
def tw10975017130930811613:=()
def tw15153644772457925265:=()
def tw15279107303499013306:=()
def tw7342934861046461270:=()
def tw4975483236710565890:=()
def tw11952105194552234104:=()
def tw10303334254739339156:=()
def tw1386441271469960016:=()
def tw11635344965437422568:=()
def tw8591613081157355572:=()
def tw17231906447201241961:=()
def tw8419511633795635931:=()
def tw12894513531584745655:=()
def tw13628778979852250614:=()
def tw11151614838839234241:=()
def tw7647381519209176200:=()
def tw3020463793861618912:=()
def tw18408268244636837203:=()
def tw10501008164244205642:=()
def tw2106321845609849377:=()
def tw11162880411165784245:=()
def tw2578384562477472865:=()
def tw18014522841223773000:=()
def tw12119764789159510333:=()
def tw16724437399986206179:=()
def tw2845340133764245098:=()
def tw13593559111154857049:=()
def tw818286392269539052:=()
def tw12697269434430072422:=()
def tw4227337173800800462:=()
def tw12878710264432456197:=()
def tw13245584879647602175:=()
def tw11923587713309840197:=()
def tw172228386578403046:=()
def tw10414969284172758500:=()
def tw5354115690946760336:=()
def tw17740711786872090599:=()
def tw16899922750382363413:=()
def tw13682334261278373632:=()
def tw15534444238023128017:=()
def tw2563211775811750482:=()
def tw1199824260215154893:=()
def tw17271778793747073730:=()
def tw17013439921546238983:=()
def tw17291507147528873354:=()
def tw9114943063234486113:=()
def tw11784971156816459683:=()
def tw15664105718790784291:=()
def tw12158631627689085348:=()
def tw3732844246080071258:=()
def tw14966595356912030602:=()
def tw1411863401538822511:=()
def tw8460686282394521439:=()
def tw13429945647547979982:=()
def tw4396206865889109275:=()
def tw12989577391056386811:=()
def tw7262120545694511790:=()
def tw6529502764541683461:=()
def tw10309207951196783679:=()
def tw1887944067271764713:=()
def tw17986056547679403164:=()
def tw13999059976040231535:=()
def tw1651339925600800719:=()
def tw6745501886442235132:=()
def tw15608679606876441285:=()
def tw5212318855212816103:=()
def tw5208844805281250565:=()
def tw7644867746804925096:=()
def tw133973443843352147:=()
def tw16772422514771438334:=()
def tw16214352487112550217:=()
def tw912535045187812501:=()
def tw10516141280000508251:=()
def tw1021415699562791146:=()
def tw14720339879873242048:=()
def tw4292251946440255176:=()
def tw17067921953184842447:=()
def tw8867459903822255924:=()
def tw9827793704656076112:=()
def tw1698112533480081635:=()
def tw6882855895148909098:=()
def tw7711319208247526015:=()
def tw13182020704593588949:=()
def tw421169740604829712:=()
def tw4323530339787523828:=()
def tw11768127535539567214:=()
def tw17430663584289669648:=()
def tw9013618202648761331:=()
def tw18342359417554463507:=()
def tw774805203311256002:=()
def tw6447131427588115045:=()
def tw11971751878066716063:=()
def tw11957939367155694255:=()
def tw9390504350772810503:=()
def tw7594125831986898327:=()
def tw1373156411602197383:=()
def tw13934875240419734824:=()
def tw8801473386997267114:=()
def tw3871241073269482119:=()
def tw2935210414278274418:=()
def tw1977003381216301219:=()
def tw3851679087315128605:=()
def tw14332114539881247950:=()
def tw7963586296557409666:=()
def tw8069305138709908207:=()
def tw3160500370236962908:=()
def tw14122912491923388218:=()
def tw15349953055743812186:=()
def tw2000266473045520537:=()
def tw17808861363492101605:=()
def tw10407425214453680228:=()
def tw3457092839979581979:=()
def tw16114667580690312910:=()
def tw4789565247638390024:=()
def tw16521905841801299958:=()
def tw488431398767100092:=()
def tw14247231307652419578:=()
def tw2619369553102594691:=()
def tw4510317707659649554:=()
def tw2178505229646911686:=()
def tw9796206805420272873:=()
def tw3372992817284547752:=()
def tw17067727172831254846:=()
def tw15466768780566969509:=()
def tw11963712504994045368:=()
def tw4482565925759091608:=()
def tw18039183969350604084:=()
def tw8033496384230830256:=()
def tw4923353922813100652:=()
def tw2452487870789503023:=()
def tw1398029725385799608:=()
def tw5015912521521010198:=()
def tw10581842615416304672:=()
def tw18062872221953691261:=()
def tw4032948423190658083:=()
def tw11066911872684126880:=()
def tw2790974600240290455:=()
def tw1902891607254663485:=()
def tw16269578451660034521:=()
def tw14755001494306613246:=()
def tw118541234166050499:=()
def tw3715107378648205987:=()
def tw9262289382784719645:=()
def tw6338209119209700812:=()
def tw6773601485018527177:=()
def tw4434082534195418091:=()
def tw7790671562195290080:=()
def tw13390255817408924460:=()
def tw6446144744283775944:=()
def tw1451343527141156254:=()
def tw93431730990172382:=()
def tw2199048923961824446:=()
def tw9631326733183183142:=()
end PySem.Challenge.cw_growurns_k96_names_and_many_urns_at_a_de_holds
set_option Elab.async true
open PySem PySem.W PyProof.Rows
set_option maxRecDepth 100000 in
set_option maxHeartbeats 0 in
theorem PySem.Challenge.cw_growurns_k96_names_and_many_urns_at_a_de_holds : PySem.Challenge.rw_growurns_k96_names_and_many_urns_at_a_de.Holds := by
 w_on;o_law;k_head;(case hw=>w_witness2)
 k_fill
 refine G.walk (l:=PySem.Challenge.rw_growurns_k96_names_and_many_urns_at_a_de) rfl rfl (λw h Y=>W.km_in_of Y) (λw h Y=>W.km_tabs_of Y) ?F
 case F =>
  intro w mg fa h KX NS hmg
  refine' G.QU KX NS hmg (G.ML KX NS ?e0 ?e1 ?e2 ?e3 ?e4 ?e5 ?e6 ?e7 ?e8 ?e9 ?eb ?eA ?eB ?eC) (G.BH KX NS ?la0 ?ll0 ?ls0 ?lk0 ?lw0 ?re0 ?rl0 ?rz0 ?rv0 ?re1 ?rl1 ?rz1 ?rv1 ?re2 ?rl2 ?rz2 ?rv2 ?re3 ?rl3 ?rz3 ?rv3 ?re4 ?rl4 ?rz4 ?rv4 ?re5 ?rl5 ?rz5 ?rv5 ?re6 ?rl6 ?rz6 ?rv6 ?re7 ?rl7 ?rz7 ?rv7) ?cd ⟨⟨?d1, ?d2, ?d3, ?d4⟩, ?d5⟩ ?d6 ?d7 (G.F9 ?a1 ?l1 ?c1 ?k1) (G.F9 ?a2 ?l2 ?c2 ?k2) (G.F9 ?a3 ?l3 ?c3 ?k3) (G.F9 ?a4 ?l4 ?c4 ?k4) (G.F9 ?a5 ?l5 ?c5 ?k5) (G.F9 ?a6 ?l6 ?c6 ?k6) (G.F9 ?a7 ?l7 ?c7 ?k7) (G.F9 ?a8 ?l8 ?c8 ?k8) (G.F9 ?a9 ?l9 ?c9 ?k9) (G.F9 ?a10 ?l10 ?c10 ?k10) (G.F9 ?a11 ?l11 ?c11 ?k11) (G.F9 ?a12 ?l12 ?c12 ?k12) (G.F9 ?a13 ?l13 ?c13 ?k13) (G.F9 ?a14 ?l14 ?c14 ?k14) (G.F9 ?a15 ?l15 ?c15 ?k15) (G.F9 ?a16 ?l16 ?c16 ?k16) (G.F9 ?a17 ?l17 ?c17 ?k17) (G.F9 ?a18 ?l18 ?c18 ?k18) (G.F9 ?a19 ?l19 ?c19 ?k19) (G.F9 ?a20 ?l20 ?c20 ?k20) (G.F9 ?a21 ?l21 ?c21 ?k21) (G.F9 ?a22 ?l22 ?c22 ?k22) (G.F9 ?a23 ?l23 ?c23 ?k23) (G.F9 ?a24 ?l24 ?c24 ?k24) (G.F9 ?a25 ?l25 ?c25 ?k25) (G.F9 ?a26 ?l26 ?c26 ?k26) (G.F9 ?a27 ?l27 ?c27 ?k27) (G.F9 ?a28 ?l28 ?c28 ?k28) (G.F9 ?a29 ?l29 ?c29 ?k29) (G.F9 ?a30 ?l30 ?c30 ?k30) (G.F9 ?a31 ?l31 ?c31 ?k31) (G.F9 ?a32 ?l32 ?c32 ?k32) (G.F9 ?a33 ?l33 ?c33 ?k33) (G.F9 ?a34 ?l34 ?c34 ?k34) (G.F9 ?a35 ?l35 ?c35 ?k35) (G.F9 ?a36 ?l36 ?c36 ?k36) (G.F9 ?a37 ?l37 ?c37 ?k37) (G.F9 ?a38 ?l38 ?c38 ?k38) (G.F9 ?a39 ?l39 ?c39 ?k39) (G.F9 ?a40 ?l40 ?c40 ?k40) (G.F9 ?a41 ?l41 ?c41 ?k41) (G.F9 ?a42 ?l42 ?c42 ?k42) (G.F9 ?a43 ?l43 ?c43 ?k43) (G.F9 ?a44 ?l44 ?c44 ?k44) (G.F9 ?a45 ?l45 ?c45 ?k45) (G.F9 ?a46 ?l46 ?c46 ?k46) (G.F9 ?a47 ?l47 ?c47 ?k47) (G.F9 ?a48 ?l48 ?c48 ?k48) (G.F9 ?a49 ?l49 ?c49 ?k49) (G.F9 ?a50 ?l50 ?c50 ?k50) (G.F9 ?a51 ?l51 ?c51 ?k51) (G.F9 ?a52 ?l52 ?c52 ?k52) (G.F9 ?a53 ?l53 ?c53 ?k53) (G.rA ?ma1 ?mf1 ?ml1 ?mc1 ?mk1) (G.rA ?ma2 ?mf2 ?ml2 ?mc2 ?mk2) (G.rA ?ma3 ?mf3 ?ml3 ?mc3 ?mk3) (G.rA ?ma4 ?mf4 ?ml4 ?mc4 ?mk4) (G.MF ?la ?ll ?lc ?lk ?lt ?ln) ?z1 ?z2 ?z3 ?z4 ?z5 ?z6 ?z7 ?z8 ?z9 ?z10 ?z11 ?z12 ?z13 ?z14 ?z15 ?z16 ?zV ?m1 ?m2 ?m3 ?m4 ?mL ?mF
  case e0|e1|e2|e3|e4|e5|e6|e7|e8|e9|eb=>k_is
  case eA|eB|eC=>kernel_rfl
  case la0|ll0=>k_is
  case ls0=>decide
  case lk0=>k_keys
  case lw0=>kernel_rfl
  case re0|rl0=>k_is
  case rz0=>decide
  case rv0=>exact(.cons ⟨_, rfl⟩ (.cons ⟨_, rfl⟩ .nil))
  case re1|rl1=>k_is
  case rz1=>decide
  case rv1=>exact(.cons ⟨_, rfl⟩ (.cons ⟨_, rfl⟩ (.cons ⟨_, rfl⟩ (.cons ⟨_, rfl⟩ .nil))))
  case re2|rl2=>k_is
  case rz2=>decide
  case rv2=>exact .nil
  case re3|rl3=>k_is
  case rz3=>decide
  case rv3=>exact(.cons ⟨_, rfl⟩ .nil)
  case re4|rl4=>k_is
  case rz4=>decide
  case rv4=>exact(.cons ⟨_, rfl⟩ (.cons ⟨_, rfl⟩ .nil))
  case re5|rl5=>k_is
  case rz5=>decide
  case rv5=>exact(.cons ⟨_, rfl⟩ (.cons ⟨_, rfl⟩ (.cons ⟨_, rfl⟩ .nil)))
  case re6|rl6=>k_is
  case rz6=>decide
  case rv6=>exact(.cons ⟨_, rfl⟩ (.cons ⟨_, rfl⟩ (.cons ⟨_, rfl⟩ .nil)))
  case re7|rl7=>k_is
  case rz7=>decide
  case rv7=>exact(.cons ⟨_, rfl⟩ (.cons ⟨_, rfl⟩ .nil))
  case cd=>k_is
  case d1|d2|d3|d4=>kernel_rfl
  case d5=>(show O6 _ _ _ = _;kernel_rfl)
  case d6|d7=>kernel_rfl
  case a1|l1|c1|k1|a2|l2|c2|k2|a3|l3|c3|k3|a4|l4|c4|k4|a5|l5|c5|k5|a6|l6|c6|k6|a7|l7|c7|k7|a8|l8|c8|k8|a9|l9|c9|k9|a10|l10|c10|k10|a11|l11|c11|k11|a12|l12|c12|k12|a13|l13|c13|k13|a14|l14|c14|k14|a15|l15|c15|k15|a16|l16|c16|k16|a17|l17|c17|k17|a18|l18|c18|k18|a19|l19|c19|k19|a20|l20|c20|k20|a21|l21|c21|k21|a22|l22|c22|k22|a23|l23|c23|k23|a24|l24|c24|k24|a25|l25|c25|k25|a26|l26|c26|k26|a27|l27|c27|k27|a28|l28|c28|k28|a29|l29|c29|k29|a30|l30|c30|k30|a31|l31|c31|k31|a32|l32|c32|k32|a33|l33|c33|k33|a34|l34|c34|k34|a35|l35|c35|k35|a36|l36|c36|k36|a37|l37|c37|k37|a38|l38|c38|k38|a39|l39|c39|k39|a40|l40|c40|k40|a41|l41|c41|k41|a42|l42|c42|k42|a43|l43|c43|k43|a44|l44|c44|k44|a45|l45|c45|k45|a46|l46|c46|k46|a47|l47|c47|k47|a48|l48|c48|k48|a49|l49|c49|k49|a50|l50|c50|k50|a51|l51|c51|k51|a52|l52|c52|k52|a53|l53|c53|k53|ma1|mf1|ml1|mc1|mk1|ma2|mf2|ml2|mc2|mk2|ma3|mf3|ml3|mc3|mk3|ma4|mf4|ml4|mc4|mk4|la|ll|lc|lk=>k_is
  case lt|ln=>kernel_rfl
  case z1|z2|z3|z4|z5|z6|z7|z8|z9|z10|z11|z12|z13|z14|z15|z16|zV|m1|m2|m3|m4|mL|mF=>k_is
#print axioms PySem.Challenge.cw_growurns_k96_names_and_many_urns_at_a_de_holds
