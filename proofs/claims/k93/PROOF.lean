import PyProof.Rows.All
import Wide.All
import OpenK.AllK
import Wide.FinOn
import Lean
import PyProof.EqAt
import PyProof.EqKinds
import PyProof.TupleCall
import KE.KIsAll
import KE.KLam
import KE.KTryDeep
import PyProof.ExcAttrAll.ValueError
import KE.KSortTup
import KE.KItemsList
import PyProof.Rows.SortRuns
import KE.KDictList
import PyProof.StrWalks
import PyProof.FString5
import PyProof.PureStr
import PyProof.CollectIter
import PyProof.StrOps2
import PyProof.FitsReplace
import PyProof.Rows.SortStr
import PySem.Challenge.RW_growurns_k93_a_desk
open PySem renaming wpAny_bind->b7,Value->b9,Shared->f6,wpAny_pure->g0,sizeLine->i7,Program->i8,wpAny->j6,model->r0,World->t9,mainGlobals->u6,Around->y7,starEach->A2,FuncData->A9,strLen_append->B4,wpAny_mono->B5,PyData->C1,wpAny_field->C4,boot_len->C9,wpAny_setField_rec->D5,wpAny_newObj_type->E6,wpAny_holding->F0,wpAny_typeNameOfWhole_itemiter->G5,wpAny_callSpecial?_slot->J1,wpAny_call_entry->J7,wpAny_typeNameOf_itemiter->L5,compareOp->M4,DictEntry->M6,Scope->M8,rawInt->P0,sysModules->P7,cellsFrom->P8,wpAny_truthy_bool->R0,wpAny_isOneOf_itemiter->R1,wpAny_setField->T7,codeAny->U8,backTo->V2,wpAny_attempt->W2,sizeLine_eq->X0,wpAny_Call_Name_kw->X4,pyNext->Y4,bootBuiltins->Z1,pushCells->ao,NameKind->ar,wpAny_pyIter_tuple->aC,codeAny_mono->aE,wpAny_passesOwn->aK,letOwnedTupleGo->aL,wpAny_standAt->aO,mem_of_lookup->bq,wpAny_seqItems->bC,IsItemIter->bG,tupleKind->bL,Arguments->bP,wpAny_comprehension_free->cx,behindInMarks->cy,attributeBase->cz,wpAny_execs_nil->cH,codeAny_builtin->cI,tupleKind_room_in1->cR,assignEach->cS,noteFrame->dh,cLine->dj,wpAny_fieldsOf->dB,wpAny_dictEntries->dD,foldedSetIterable->dE,firstArgMember->dG,binaryOp->dH,assign->dI,Result->eW,plainId_quiet->fg,sliceBounds->fF,bindArgs->fG,wpAny_dictEpoch->fO,pushCells_keeps->fP,Builtin->gF,codeAmong->ie,TriplesOk->ig,wpAny_newTuple->il,wpAny_call->ip,typeIs_str->iq,newFunctionEnv->ir,wpAny_pyIter_list->jf,keywordEach->jg,assignInOrder->jv,wpAny_isInstance->jG,swapsWith->jH,setFlight->jI,setField->jJ,wpAny_rule->kC,relabel->kE,holding->kF,call_meetsIn->kG,builtinsNs->kH,wpAny_loadPart'->lA,Model->lB,isSubtype_stop->ni,notedBy->nG,leaving->nH,joinParts->nJ,Keyword->nM,wpAny_onRaise->qi,wpAny_newList->qj,field->qk,pyIter->qv,findBy->qw,call_meets->qx,IsPair->qA,valueAt->rY,evalEach->sd,callerA->si,backToKw->sj,BindsTo->sy,wpAny_execs_cons->uO,updateSeq->uP,getMethod->uQ,wpAny_throw->wA,wpAny_of_eq->wB,wpAny_letGo->wC,subscripted->wD,wpAny_updateSeq->wN,theTreesLotGoes->wO,Within->wV,getItem->yS,wpAny_newFunctionEnv_cells->Aj,wpAny_loadPart->Ak,wpAny_bindName->Al,compPost->Ao,bindName->Aq,atKey->Ar,Paired->Ax,IsZip->AC,evalArgs_none->BV,wpAny_handled->Ce,swappedStores->Cf,call->Ck,IsItemIterOut->Cu,wpAny_list_append_plain->Gc,wpAny_Call_method0_late->Gd,bindL->Ge,bindC->Gf,CmpOp->Gm,wpAny_pyNext_list_item->Gw,standAt->Gy,seqIndex_neg->Gz,newList->GA,newExc->GB,isTrue->GC,codeAny_loop->GD,codeAny_compStart_list->GF,IsEnum->GK,wpAny_isTrue_Compare1->IX,codeAny_call_function->IZ,wpAny_updateSeq_pair->JH,wpAny_noted->JI,unpackItems->JJ,unbindBehindTheSuite->JK,seqIndex_of->JL,newTuple->JM,wpAny_load->Nc,wpAny_entryPlaceOf->Nd,wpAny_Name->Nf,entryOfKey->Ng,wpAny_pyIter_slot->OZ,wpAny_pyIter_enum->Pa,wpAny_frameOf_fun->Pb,wpAny_assign_Name->Pc,wpAny_Call_method->Pd,collect->Pf,wpAny_pyIter_zip->Py,wpAny_getItem_of->Pz,wpAny_Dict_empty->PB,onTheHeap->PD,IsEnumOut->PU
open List renaming length_map->d8,mem_cons_self->f9,mem_cons_of_mem->i4,getElem?_eq_getElem->i6,length_cons->m8,mem_append_right->n5,map_cons->r9,getElem?_map->v8,map_append->w5,length_append->y6,mem_of_getElem?->y8,size_toArray->A0,not_mem_nil->B6,mem_cons->C3,take_add_one->D1,getD_eq_getElem?_getD->E9,lookup_cons->F8,length_take->F9,take_of_length_le->J4,getElem?_set_ne->N6,take_length->N9,getElem_mem->O0,range->O5,mem_append_left->P5,sum_cons->P9,append_nil->S8,filterMap_cons->U5,all_map->U9,getElem?_eq_none->V9,length_nil->X6,getElem?_set_self->aj,any_cons->aw,length_range->aF,replicate->aP,mem_of_mem_take->aQ,toArray->bg,nodup_cons->bN,find?_cons->bO,zip_cons_cons->bT,lookup->bZ,map_map->cJ,forIn_nil->cK,ext_getElem?->cL,forIn_cons->eT,length_zipWith->eX,mem_of_find?_eq_some->gw,length_drop->iz,length_pos_of_mem->ji,of_mem_zip->jw,length_set->jx,all_cons->lF,find?_eq_none->mG,cons_append->ql,all_eq_true->qm,range_succ->qR,foldl_cons->qS,getElem?_append_right->uF,foldl->uG,getElem?_append_left->uU,map_nil->yU,getElem?_zipWith->AA,cons_lt_cons_iff->AB,length->BX,getElem_toArray->BZ,contains_eq_mem->Ca,map_eq_nil_iff->Cp,getElem_of_mem->Cq,getElem?_range->Cr,zipIdx_cons->Ja,map_snd_zip->Jb,zipIdx_nil->JP,nodup_nil->MJ
open PySem.Heap renaming get?_push_of_some->d9,lt_size->i5,get?_push_size->j8,size_push->C5,get?_update_other->C6,SameBut->E7,get?_update_self->J8,get?_none_of_le->aR,ExtBut->gE,size_after_update->jj,size_update->qp,IsTuple->Pm
open Nat renaming le_refl->i9,le_trans->j9,ne_of_lt->m9,lt_of_lt_of_le->y9,zero_le->A7,ne_of_gt->B7,pow_le_pow_right->B9,mul_le_mul->F5,lt_succ_self->J3,lt_succ_of_lt->K3,lt_of_le_of_lt->K6,le_add_right->M3,pow_add->N8,lt_irrefl->Q3,mul_le_mul_left->Q7,lt_succ_of_le->S7,le_succ->V5,mul_add->Y0,le_of_lt->aq,le_add_left->av,zero_add->br,pos_of_ne_zero->bX,pow_lt_pow_right->eh,log2_lt->ez,mul_pos->ij,not_lt_of_le->iB,mul_ne_zero->jC,eq_zero_or_pos->nj,pow_succ->Ay,le_of_eq->Az,one_mul->Cn,not_succ_le_self->Co,le_of_not_lt->JO,strongRecOn->MH,min_eq_left->MI,mul_assoc->Pl,sub_zero->PM,mul_comm->PN,lt_trans->PP,lt_or_ge->PQ,gcd_comm->PR
open PySem.W renaming Frag->j7,nsIn->G4,mg_none_of->K9,findIn->N0,mg_of->R8,keepIn->Y6,kia_one->aJ,emptyDict->bo,fnOf->bM,kitOne->bV,codeHdIn->ee,codeIn->eV,instObj->gu,kas_sort->gy,specialIn->lC,envX->lD,subIn->mD,codeHd_of_K->nK,kas_ask->sk,cellsFrom_some->so,clsIn->wF,plainGet->wQ,looks_findIn->wR,kitCls->wU,plainGet_of->Au,takesIn->BR,makesIn->BS,kla_obj->BU,callWith_K->Ci,KdxIt->Cj,tabObj->GG,methodObj->GH,lookIn->GI,hasDictIn->GJ,isFn->JN,mroIn->MD,excIn->ME,Looks->MF,takerIn->Nh,findObj->Ni,OpenLaw->Nj,KeysLit->Nk,kla_fn->PH,kas_descPart->PK,InstAt->PL
open PySem.Value renaming ref->n9,none->A3,bool->P3,isStrOf->S0,str->aV,isStrOf_shape->bp,builtin->bE,type->fH,int->kz,float->Av,isInt->Pj,bytes->Pk
open Bool renaming false_ne_true->u7,and_eq_true->w6,true_and->Q0,false_eq_true->R9,false_and->V8,and_false->aU,eq_iff_iff->eU,false_or->wK,or_false->Nu,true_or->Po
open Or renaming inl->A4,inr->bf
open PySem.Txt renaming split->A8,join->D7
open Array renaming length_toList->B8,getElem?_toList->O8,getElem?_setIfInBounds_self_of_lt->aG,toList_append->kK,append_assoc->lH,getElem?_eq_none->wW,find?_toList->Cz,size_append->Gn,toList->Nv,getD->PX
open PySem.Builtin.Str renaming occurrences->C7,strKind->S4,partsBetween->oi
open Sum renaming inr->C8,inl->cU
open PySem.F renaming plainAttrs_str->D2,slot_dict_itemiterator_next->G8,type_str_join->L6,slot_str_join->L7,slot_str_split->T8,slot_dict_get->V4,args_dict_itemiterator_next_1->Z4,plain_extend_loop->Z8,entry_dict_itemiterator_next->aa,slot_tuple_iterator_next->bt,plainAttrs_dict->bK,entry_dict_get->bW,slot_enumerate_next->dX,args_str_split_2->fQ,slot_dict_items->gz,plainAttrs_list->gB,entry_str_split->gD,type_str_split->iu,plain_list_iadd->iA,slot_zip_next->kA,type_list_append->sr,slot_list_append->su,type_dict_items->uC,args_dict_get_3->uD,args_dict_get_2->uE,slot_dict_itemiterator_iter->uI,slot_str_index->uR,slot_str_count->uS,args_tuple_iterator_next_1->uY,type_dict_get->wI,entry_tuple_iterator_next->wJ,args_enumerate_next_1->Cb,slot_dict_items_iter->Cw,entry_enumerate_next->Cy,plain_proto_collect->Gi,entry_proto_collect->Gj,entry_extend_loop->Jc,entry_list_iadd->MM,args_zip_next_1->MN,entry_zip_next->Nt
open PySem.PyData renaming eqvAll->D3,canLayAll0->J2,str->J9,depthAll->K7,int->N1,canLay0->N2,depth->U4,eqv->X8,tuple->cm,strOk->eS
open False renaming elim->D6
open Option.some renaming inj->D8
open PyProof.Rows renaming boot_isinstance->E3,boot_tuple->R3,Keyed->X7,envOfC->Y5,callWith_type1->Z5,seqObj->aD,boot_str->aM,join_cons_cons->bD,IntsAre->cN,SortKind->dJ,AllBare->jk,boot_int->jK,split_weight->kD,joinParts_cons->ng,assignInOrder_cons->qy,join_one->rZ,failedOf->Am,boot_sum->Ap,subscriptTail->Cg,subscriptTail_builtinR->Gx,formatField_int_small->IY,FormattedValue_plain->JQ,Subscript_->Nl,strOf->Pe,assignInOrder_nil->Pg
open Ne renaming symm->E8
open PySem.Builtin.SmallTypes renaming nextOf->G2,ownedTupleIsFree->J5,ownedTupleHandOut->Q9
open PySem.Builtin.Int renaming intBits->G3
open PySem.Obj renaming mapFields->K2,data_mapFields->N7,isFreed_of_fields->X1,mapSeq->Y7,cls_mapFields->oh
open PySem.Str renaming ofString->M5,empty->V6,join->eg,mk->Nm
open Int renaming toNat_natCast->Q4,lt_of_le_of_lt->S1,gcd->Z3,natCast_nonneg->au,natAbs_natCast->cf,emod_lt_of_pos->cg,eq_ofNat_of_zero_le->cn,emod_nonneg->eY,natCast_mul->jD,natAbs_mul->kJ,ediv_le_self->qB,mul_nonneg->uV,fdiv_eq_ediv_of_nonneg->uW,natAbs_of_nonneg->Cv,natCast_pow->MK,ediv_nonneg->ML
open PySem.Builtin.Dict_items renaming ownsTuple->Q8,ownedTupleIsFree->R6,pairFromOwner->S9,ownedTupleFields->fR
open PySem.NameKind renaming free->T9,cell->cV
open True renaming intro->V7
open PySem.Heap.SameBut renaming update->X2,refl->uX
open PySem.Around renaming under_plainId->X3,under->wL,frames_deeper->yX
open PySem.SeqAt renaming shaped->X5,EqAt->lE
open PySem.PassesOwn renaming never->Z6
open PySem.Builtin.List renaming listExtendWith->Z7,listSameRef->nN
open PySem.Calls renaming callWith_builtin->ae,evalArgs_plain->dM,spliced_cons->fI,Constant_str->lG,spliced_nil->nq,Name_function_global->sv,call_function_entry->uJ
open ForInStep renaming yield->bh
open PySem.AutoSeq1 renaming wpAny_loadPart'->bj
open Option renaming map_some->bF,map_eq_none_iff->iy,isSome_some->BW,isSome_map->Cm,getD_none->Gg,bind_some->Gh,none->Nr
open List.cons renaming inj->cM
open PySem.Paired renaming length->dm,snoc->Nq
open PySem.EntryCells renaming newEntry->dn
open PySem.Shared renaming TypeIs->gv,heap->yT
open PySem.Spec renaming countIn->jh
open PySem.SeqAt.EqAt renaming int_int->jB,bool_bool->uB,str_int->wG,int_str->wH,same->Aw
open PySem.Builtin.ObjectAttr renaming bindTo->jL
open Rat renaming mkRat_def->mE,mul_le_mul_of_nonneg_right->qz,mul_nonneg->Np
open PySem.Builtin.Dict renaming showsAll->qC
open List.Pairwise renaming nil->uH
open PySem.Heap.DictOf renaming new->yV
open PySem.Code renaming isFrame->yW,frames->PV
open List.Perm renaming refl->Cs
open PySem.DictEntry renaming key->Gk
open Sum.inr renaming inj->MG
open PySem.W.WShape renaming has->Ph
open PySem.CmpOp renaming NotIn->Pn
open PySem.Walks renaming list->PF
set_option Elab.async false
set_option linter.all false
set_option maxRecDepth 100000
namespace L2
open PySem PySem.Spec PyProof.Rows
abbrev O4:=Sum Int Str
noncomputable def pP:O4->b9->Bool
 | .inl k,v=>Pj k v
 | .inr x,v=>S0 x v
noncomputable def keyH (w:t9):O4->Int
 | .inl k=>hashInt k
 | .inr x=>hashStr w x
theorem W1:∀{k:O4}{v:b9},pP k v=true->(∃i t,k=cU i/\v=kz i t) ∨ (∃x t,k=C8 x/\v=aV x t)
 | .inl i,v,h=>by
  obtain⟨t,e⟩:=Value.isInt_shape (k:=i) (v:=v) h
  exact .inl ⟨i,t,rfl,e⟩
 | .inr x,v,h=>by
  obtain⟨t,e⟩:=bp (x:=x) (v:=v) h
  exact .inr ⟨x,t,rfl,e⟩
theorem Bk (i:Int) (t:Tok):pP (.inl i) (.int i t)=true:=by simp[pP,Pj]
theorem Bj (x:Str) (t:Tok):pP (.inr x) (.str x t)=true:=by simp[pP,S0]
theorem LN (a b:Int):decide ((cU a:O4)=cU b)=(a == b):=by
 by_cases e:a=b
 ·subst e;simp
 ·have h:¬ (cU a:O4)=cU b:=fun q=>e (Sum.inl.inj q)
  rw[decide_eq_false h]
  exact(beq_eq_false_iff_ne.mpr e).symm
theorem LJ (a b:Str):decide ((C8 a:O4)=C8 b)=decide (a=b):=by
 by_cases e:a=b
 ·subst e;simp
 ·have h:¬ (C8 a:O4)=C8 b:=fun q=>e (MG q)
  rw[decide_eq_false h,decide_eq_false e]
theorem LM (a:Int) (b:Str):decide ((cU a:O4)=C8 b)=false:=decide_eq_false (fun q=>nomatch q)
theorem LK (a:Str) (b:Int):decide ((C8 a:O4)=cU b)=false:=decide_eq_false (fun q=>nomatch q)
noncomputable def O7 (prog:i8) (w:t9):PySem.KeyKind prog w O4 where
 is:=pP
 hash:=keyH w
 inj:=fun v a b ha hb=>by
  rcases W1 ha with ⟨i,t,rfl,rfl⟩|⟨x,t,rfl,rfl⟩
  ·rcases W1 hb with ⟨j,u,rfl,e⟩|⟨y,u,rfl,e⟩
   ·injection e with e1 _;rw[e1]
   ·exact nomatch e
  ·rcases W1 hb with ⟨j,u,rfl,e⟩|⟨y,u,rfl,e⟩
   ·exact nomatch e
   ·injection e with e1 _;rw[e1]
 byValue:=fun k v h=>by
  rcases W1 h with ⟨i,t,rfl,rfl⟩|⟨x,t,rfl,rfl⟩ <;> rfl
 pyHash:=fun hv h=>by
  rcases W1 hv with ⟨i,t,rfl,rfl⟩|⟨x,t,rfl,rfl⟩
  ·exact wpAny_pyHash_int h
  ·exact wpAny_pyHash_str h
 eqBool:=fun hu hv h=>by
  rcases W1 hu with ⟨i,t,rfl,rfl⟩|⟨x,t,rfl,rfl⟩
  ·rcases W1 hv with ⟨j,u,rfl,rfl⟩|⟨y,u,rfl,rfl⟩
   ·rw[LN] at h;exact wpAny_eqBool_int h
   ·rw[LM] at h;exact wH i t y u _ _ _ _ h
  ·rcases W1 hv with ⟨j,u,rfl,rfl⟩|⟨y,u,rfl,rfl⟩
   ·rw[LK] at h;exact wG x t j u _ _ _ _ h
   ·rw[LJ] at h;exact wpAny_eqBool_str h
 «strs»:=fun k x t v h=>by
  rcases W1 h with ⟨i,u,rfl,e⟩|⟨y,u,rfl,e⟩
  ·exact nomatch e
  ·injection e with e1 _
   subst e1
   cases v <;> rfl
theorem vG (prog:i8) (w:t9) (i:Int) (t:Tok):(O7 prog w).is (.inl i) (.int i t)=true:=Bk i t
theorem vF (prog:i8) (w:t9) (x:Str) (t:Tok):(O7 prog w).is (.inr x) (.str x t)=true:=Bj x t
inductive V where
 | non|bl (b:Bool)|int (i:Int)|str (x:Str)|byt (b:Array UInt8)|flt (b:UInt64)|ref (a:Addr)|ty (n:String)
 deriving DecidableEq
noncomputable def G9:V->b9->Prop
 | .non,u=>u=A3
 | .bl b,u=>u=P3 b
 | .int i,u=>∃t,u=kz i t
 | .str x,u=>∃t,u=aV x t
 | .byt b,u=>∃t,u=Pk b t
 | .flt b,u=>∃t,u=Av b t
 | .ref a,u=>u=n9 a
 | .ty n,u=>u=fH n
abbrev G6:List V->List b9->Prop:=Ax G9
theorem G6.length {xs:List V}{us:List b9} (r:G6 xs us):xs.length=us.length:=dm r
theorem G6.get:∀{xs:List V}{us:List b9}{i:Nat}{x:V},G6 xs us->xs[i]?=some x->∃u,us[i]?=some u/\G9 x u
 | _,_,_,_,.nil,e=>by simp at e
 | _,_,0,_,.cons r _,e=>by simp at e;subst e;exact⟨_,rfl,r⟩
 | _,_,i+1,x,.cons _ t,e=>by
  obtain⟨u,h1,h2⟩:=G6.get (i:=i) (x:=x) t (by simpa using e)
  exact⟨u,by simpa using h1,h2⟩
theorem G6.set {x:V}{u:b9} (r:G9 x u):∀{xs:List V}{us:List b9} (i:Nat),G6 xs us->G6 (xs.set i x) (us.set i u)
 | _,_,_,.nil=>.nil
 | _,_,0,.cons _ t=>.cons r t
 | _,_,i+1,.cons q t=>.cons q (G6.set r i t)
theorem G6.append:∀{xs ys:List V}{us ws:List b9},G6 xs us->G6 ys ws->G6 (xs++ys) (us++ws)
 | _,_,_,_,.nil,s=>s
 | _,_,_,_,.cons r t,s=>.cons r (G6.append t s)
theorem G6.take:∀{xs:List V}{us:List b9} (n:Nat),G6 xs us->G6 (xs.take n) (us.take n)
 | _,_,0,_=>.nil
 | _,_,_+1,.nil=>.nil
 | _,_,n+1,.cons r t=>.cons r (G6.take n t)
theorem G6.drop:∀{xs:List V}{us:List b9} (n:Nat),G6 xs us->G6 (xs.drop n) (us.drop n)
 | _,_,0,r=>r
 | _,_,_+1,.nil=>.nil
 | _,_,n+1,.cons _ t=>G6.drop n t
noncomputable def iw:Option V->Option b9->Prop
 | some v,some u=>G9 v u
 | none,none=>True
 | _,_=>False
noncomputable def KV {κ:Type}:List (κ × V)->List (κ × b9)->Prop:=Ax fun (p:κ × V) (q:κ × b9)=>p.1=q.1/\G9 p.2 q.2
noncomputable def kV:O4->V
 | .inl i=>.int i
 | .inr x=>.str x
inductive HO where
 | lst (xs:List V)
 | tup (xs:List V)
 | dK (kvs:List (O4 × V))|dT (kvs:List (List O4 × V))
 | set (S:Int->Bool) (n:Nat)
 | ins (C dx:Addr) (fs:List (Str × V))
 | own (x:Addr)
 | xd (fs:List (Str × V))
 | met (f x:Addr)
 | rng (lo hi:Int)
 | frz (o:Obj) (u:HO)
 | tbl (ps:Array b9)
 | ext (φ:Heap->Prop)
abbrev Hp:=Addr->Option HO
def A6 (H:Hp) (a:Addr) (o:HO):Hp:=fun b=>if b=a then some o else H b
variable {H:Hp}{a:Addr}{o:HO}
theorem j0 :A6 H a o a=some o:=by unfold A6;rw[if_pos rfl]
variable {b:Addr}
theorem v9 (h:b≠a):A6 H a o b=H b:=by unfold A6;rw[if_neg h]
theorem gn {u:HO} (h:H a=some o) (h':H b=some u) (d:o≠u):a≠b:=by
 intro e;subst e;rw[h] at h';exact d (D8 h')
theorem u9 (h:H a=some o) (h':H b=none):a≠b:=by
 intro e;subst e;rw[h] at h';cases h'
section
variable (P:i8) (w:t9)
noncomputable def P2 (H:Hp) (h:Heap) (a:Addr):HO->Prop
 | .lst xs=>xs.length<=i7/\∃(its:List b9) (n:Nat),G6 xs its/\h.get? a=some { cls:=.type "list",data:=.seq its.toArray n }
 | .tup xs=>xs.length<=i7/\∃its:List b9,G6 xs its/\IsTup h a its.toArray
 | .dK kvs=>kvs.length<=i7/\(a == P7)=false/\∃vs,KV kvs vs/\h.DictOf (O7 P w) a vs
 | .dT kvs=>kvs.length<=i7/\(a == P7)=false/\∃xs:List (List O4 × Addr × b9),
   Ax (fun (p:List O4 × V) (q:List O4 × Addr × b9)=>p.1=q.1/\H q.2.1=some (.tup (p.1.map kV))/\G9 p.2 q.2.2) kvs xs /\
   ∃o es ep,h.get? a=some o/\o.ExactDict/\o.data=.dict es ep/\es.toList=xs.map (Ng (bL (O7 P w)))/\(xs.map (·.1)).Nodup
 | .set S n=>h.SetOf (intKind P w) a S n
 | .ins C dx fs=>H dx=some (.own a)/\fs.length<=1000/\dx≠a/\h.get? a=some (gu C dx) /\
   ∃mA,h.Ns1 dx mA/\(∀f,iw (fs.lookup f) (mA f))/\wV mA (fs.map (·.1))
 | .own _=>∃o,h.get? a=some o
 | .xd fs=>∃mA,h.Ns1 a mA/\∀f,iw (fs.lookup f) (mA f)
 | .rng lo hi=>∃t u v,h.get? a=some { cls:=.type "range",data:=.fields #[.int lo t,.int hi u,.int 1 v] }
 | .frz o u=>h.get? a=some o/\P2 H h a u
 | .tbl ps=>h.get? a=some { cls:=.none,data:=.fields ps }
 | .met f x=>h.get? a=some (GH (.ref f) (.ref x))
 | .ext φ=>φ h/\(∃o,h.get? a=some o)/\∀h1 h2:Heap,φ h1->(∀o,h1.get? a=some o->h2.get? a=some o)->φ h2
def bU (H:Hp) (h:Heap):Prop:=∀a o,H a=some o->P2 P w H h a o
end
section
variable {P:i8}{w:t9}{H H':Hp}{h h':Heap}{a:Addr}{o:HO}
theorem P2.lt (x:P2 P w H h a o):a<h.objs.size:=by
 cases o with
 | lst xs=>obtain⟨_,_,_,_,e⟩:=x;exact i5 e
 | tup xs=>obtain⟨_,_,_,p⟩:=x;exact p.lt
 | dK kvs=>obtain⟨_,_,_,_,o,_,_,e,_⟩:=x;exact i5 e
 | dT kvs=>obtain⟨_,_,_,_,o,_,_,e,_⟩:=x;exact i5 e
 | set S n=>obtain⟨o,_,_,_,e,_⟩:=x;exact i5 e
 | ins C dx fs=>obtain⟨_,_,_,e,_⟩:=x;exact i5 e
 | own y=>obtain⟨_,e⟩:=x;exact i5 e
 | xd fs=>obtain⟨_,⟨_,_,_,e,_⟩,_⟩:=x;exact i5 e
 | rng lo hi=>obtain⟨_,_,_,e⟩:=x;exact i5 e
 | frz ob u=>obtain⟨e,_⟩:=x;exact i5 e
 | tbl ps=>exact i5 (show h.get? a=some _ from x)
 | met f y=>exact i5 (show h.get? a=some _ from x)
 | ext φ=>obtain⟨_,⟨_,e⟩,_⟩:=x;exact i5 e
theorem Paired.mapP {α β:Type}{F G:α->β->Prop}:∀{l₁:List α}{l₂:List β},Ax F l₁ l₂->(∀a b,F a b->G a b)->Ax G l₁ l₂
 | _,_,.nil,_=>.nil
 | _,_,.cons r t,f=>.cons (f _ _ r) (Paired.mapP t f)
theorem P2.stay (x:P2 P w H h a o) (k:∀b u,(b=a ∨ H b=some (.own a))->h.get? b=some u->h'.get? b=some u)
  (ho:∀b,H b=some (.own a)->H' b=some (.own a)) (ht:∀b xs,H b=some (.tup xs)->H' b=some (.tup xs)):P2 P w H' h' a o:=by
 induction o with
 | lst xs=>obtain⟨z,its,n,r,e⟩:=x;exact⟨z,its,n,r,k _ _ (.inl rfl) e⟩
 | tup xs=>obtain⟨z,its,r,ob,e,c⟩:=x;exact⟨z,its,r,ob,k _ _ (.inl rfl) e,c⟩
 | dK kvs=>obtain⟨z,y,vs,r,ob,es,ep,e,c⟩:=x;exact⟨z,y,vs,r,ob,es,ep,k _ _ (.inl rfl) e,c⟩
 | dT kvs =>
  obtain⟨z,y,xs,r,ob,es,ep,e,c⟩:=x
  exact⟨z,y,xs,Paired.mapP r fun p q z=>⟨z.1,ht _ _ z.2.1,z.2.2⟩,ob,es,ep,k _ _ (.inl rfl) e,c⟩
 | set S n=>obtain⟨ob,es,ep,t,e,c⟩:=x;exact⟨ob,es,ep,t,k _ _ (.inl rfl) e,c⟩
 | ins C dx fs =>
  obtain⟨d,z,ne,e,mA,⟨od,es,ep,e2,c⟩,r⟩:=x
  exact⟨ho _ d,z,ne,k _ _ (.inl rfl) e,mA,⟨od,es,ep,k _ _ (.inr d) e2,c⟩,r⟩
 | own y=>obtain⟨ob,e⟩:=x;exact⟨ob,k _ _ (.inl rfl) e⟩
 | xd fs=>obtain⟨mA,⟨od,es,ep,e,c⟩,r⟩:=x;exact⟨mA,⟨od,es,ep,k _ _ (.inl rfl) e,c⟩,r⟩
 | rng lo hi=>obtain⟨t,u,v,e⟩:=x;exact⟨t,u,v,k _ _ (.inl rfl) e⟩
 | frz ob u ih=>obtain⟨e,q⟩:=x;exact⟨k _ _ (.inl rfl) e,ih q⟩
 | tbl ps =>
  have e:h.get? a=some { cls:=.none,data:=.fields ps }:=x
  show h'.get? a=some { cls:=.none,data:=.fields ps }
  exact k a _ (.inl rfl) e
 | met f y =>
  have e:h.get? a=some (GH (.ref f) (.ref y)):=x
  show h'.get? a=some (GH (.ref f) (.ref y))
  exact k a _ (.inl rfl) e
 | ext φ=>obtain⟨p,⟨o,e⟩,st⟩:=x;exact⟨st _ _ p fun o q=>k _ _ (.inl rfl) q,⟨o,k _ _ (.inl rfl) e⟩,st⟩
theorem bU.lt (x:bU P w H h) (e:H a=some o):a<h.objs.size:=(x a o e).lt
theorem bU.fresh (x:bU P w H h) (e:h.objs.size<=a):H a=none:=by
 cases q:H a with
 | none=>rfl
 | some u=>exact absurd (y9 (x.lt q) e) (Q3 _)
theorem bU.kept (x:bU P w H h) (k:∀b u,h.get? b=some u->h'.get? b=some u):bU P w H h':=fun a o e =>
 (x a o e).stay (fun b u _ q=>k b u q) (fun _ q=>q) fun _ _ q=>q
theorem bU.laid (x:bU P w H h) (k:∀b u,h.get? b=some u->h'.get? b=some u) (hp:h.objs.size<=a) (new:P2 P w (A6 H a o) h' a o):bU P w (A6 H a o) h':=fun b u e=>by
 have hn:=x.fresh hp
 by_cases hb:b=a
 ·subst hb;rw[j0] at e;cases e;exact new
 ·rw[v9 hb] at e
  exact(x b u e).stay (fun c v _ q=>k c v q) (fun c q=>by rw[v9 (u9 q hn)];exact q) fun c xs q=>by rw[v9 (u9 q hn)];exact q
end
def Rd (H:Hp) (a:Addr) (u:HO):Prop:=H a=some u ∨ ∃o,H a=some (.frz o u)
variable {P:i8}{w:t9}{h:Heap}
theorem Rd.ok {u:HO} (r:Rd H a u) (x:bU P w H h):P2 P w H h a u:=by
 rcases r with r|⟨o,r⟩
 ·exact x a u r
 ·obtain⟨_,q⟩:=x a _ r
  exact q
noncomputable def OS:Option HO->Prop
 | some (.lst _)=>True
 | some (.dK _)=>True
 | some (.dT _)=>True
 | some (.set _ _)=>True
 | some (.ins _ _ _)=>True
 | some (.ext _)=>True
 | _=>False
section
variable {P:i8}{w:t9}{H:Hp}{h h':Heap}{x e:Addr}{o':HO}
theorem bU.write (ok:bU P w H h) (mu:OS (H x)) (he:e=x ∨ H e=some (.own x)) (k:∀b u,b≠e->h.get? b=some u->h'.get? b=some u) (heo:∃u,h'.get? e=some u)
  (new:P2 P w (A6 H x o') h' x o'):bU P w (A6 H x o') h':=fun b u q=>by
 have nown:∀c y,H c=some (.own y)->c≠x:=fun c y r z=>by subst z;rw[r] at mu;exact mu
 have ntup:∀c xs,H c=some (.tup xs)->c≠x:=fun c xs r z=>by subst z;rw[r] at mu;exact mu
 by_cases hb:b=x
 ·subst hb;rw[j0] at q;cases q;exact new
 ·rw[v9 hb] at q
  by_cases hbe:b=e
  ·have q':H b=some (.own x):=by
    rcases he with z|z
    ·exact absurd (hbe.trans z) hb
    ·rw[hbe];exact z
   rw[q] at q';cases q'
   obtain⟨v,hv⟩:=heo
   exact⟨v,by rw[hbe];exact hv⟩
  ·refine (ok b u q).stay (fun c v hc r=>k c v ?_ r) (fun c r=>by rw[v9 (nown c b r)];exact r) fun c xs r=>by rw[v9 (ntup c xs r)];exact r
   rcases hc with rfl|hc
   ·exact hbe
   ·rintro rfl
    rcases he with z|z
    ·exact nown c b hc z
    ·rw[hc] at z;cases z;exact hb rfl
end
structure Un (fs ex:List Addr) (H H':Hp) (h h':Heap):Prop where
 keep:∀b o,h.get? b=some o->H b=none->b ∉ fs->b ∉ ex->h'.get? b=some o
 slot:∀b o,h.get? b=some o->H b=none->b∈fs->b ∉ ex->∃sl,h'.get? b=some { o with slots:=sl }
 free:∀b o,h.get? b=some o->H b=none->b ∉ ex->H' b=none
 there:∀b o,h.get? b=some o->b ∉ ex->∃o',h'.get? b=some o'
 tups:∀b xs,H b=some (.tup xs)->H' b=some (.tup xs)
 frzs:∀b o u,H b=some (.frz o u)->H' b=some (.frz o u)
 tbls:∀b ps,H b=some (.tbl ps)->∃more,H' b=some (.tbl (ps++more))
section
variable {fs fs' ex ex':List Addr}{H H1 H2:Hp}{h h1 h2 h':Heap}{a x e:Addr}{o:HO}
theorem Un.any (u:Un fs ex H H1 h h1) {b:Addr}{ob:Obj} (q:h.get? b=some ob) (n:H b=none) (hx:b ∉ ex):∃sl,h1.get? b=some { ob with slots:=sl }:=by
 by_cases hb:b∈fs
 ·exact u.slot b ob q n hb hx
 ·exact⟨ob.slots,u.keep b ob q n hb hx⟩
theorem Un.kept (k:∀b u,h.get? b=some u->h'.get? b=some u):Un fs ex H H h h' :=
 ⟨fun b ob q _ _ _=>k b ob q,fun b ob q _ _ _=>⟨ob.slots,k b ob q⟩,fun _ _ _ n _=>n,fun b ob q _=>⟨ob,k b ob q⟩,fun _ _ q=>q,fun _ _ _ q=>q,fun _ ps q=>⟨#[],by rw[q];simp⟩⟩
theorem Un.refl:Un fs ex H H h h:=Un.kept fun _ _ q=>q
theorem Un.laid (k:∀b u,h.get? b=some u->h'.get? b=some u) (hp:h.objs.size<=a) (hn:H a=none):Un fs ex H (A6 H a o) h h' where
 keep:=fun b u q _ _ _=>k b u q
 slot:=fun b u q _ _ _=>⟨u.slots,k b u q⟩
 free:=fun b u q n _=>by rw[v9 (m9 (y9 (i5 q) hp))];exact n
 there:=fun b u q _=>⟨u,k b u q⟩
 tups:=fun b xs q=>by rw[v9 (u9 q hn)];exact q
 frzs:=fun b u xs q=>by rw[v9 (u9 q hn)];exact q
 tbls:=fun b ps q=>⟨#[],by rw[v9 (u9 q hn),q];simp⟩
theorem Un.write (mu:OS (H x)) (he:e=x ∨ H e=some (.own x)) (k:∀b u,b≠e->h.get? b=some u->h'.get? b=some u) (heo:∃u,h'.get? e=some u):Un fs ex H (A6 H x o) h h':=by
 have hx:∀b,H b=none->b≠x:=fun b n z=>by subst z;rw[n] at mu;exact mu
 have hb:∀b,H b=none->b≠e:=fun b n z=>by
  subst z
  rcases he with r|r
  ·exact hx b n r
  ·rw[n] at r;cases r
 have hm:∀b u,H b=some u->¬ OS (some u)->b≠x:=fun b u q nm z=>by subst z;rw[q] at mu;exact nm mu
 refine⟨fun b u q n _ _=>k b u (hb b n) q,fun b u q n _ _=>⟨u.slots,k b u (hb b n) q⟩,fun b u q n _=>by rw[v9 (hx b n)];exact n,fun b u q _=>?_,
  fun b xs q=>by rw[v9 (hm b _ q fun z=>z)];exact q,fun b u xs q=>by rw[v9 (hm b _ q fun z=>z)];exact q,fun b ps q=>⟨#[],by rw[v9 (hm b _ q fun z=>z),q];simp⟩⟩
 by_cases hbe:b=e
 ·subst hbe;exact heo
 ·exact⟨u,k b u hbe q⟩
end
def Pp (h:Heap) (H:Hp):List Addr:=(O5 h.objs.size).filter fun a=>(H a).isSome
def qL (h:Heap) (H:Hp):Heap:=W.hideAll h (Pp h H)
theorem Bo (h:Heap) (H:Hp):(qL h H).objs.size=h.objs.size:=W.hideAll_size _ _
theorem Fo {o:Obj} (e:h.get? b=some o) (n:H b=none):(qL h H).get? b=some o :=
 W.hideAll_get _ e fun hm=>by
  have q:(H b).isSome=true:=(List.mem_filter.mp hm).2
  rw[n] at q;simp at q
theorem HQ {o:Obj} (e:(qL h H).get? b=some o):h.get? b=some o/\H b=none:=by
 have e':h.get? b=some o:=W.of_hideAll (Pp h H) e
 refine⟨e',?_⟩
 cases q:H b with
 | none=>rfl
 | some x =>
  have hm:b∈Pp h H:=List.mem_filter.mpr ⟨List.mem_range.mpr (i5 e'),by simp[q]⟩
  have z:(qL h H).get? b=none:=W.hideAll_none (Pp h H) hm
  rw[z] at e;cases e
noncomputable def IQ (g h:Heap) (L:Addr):List (Addr × Obj):=(O5 h.objs.size).filterMap fun a=>if a=L ∨ (g.get? a).isSome=true then none else (h.get? a).map fun o=>(a,o)
noncomputable def V3 (g h:Heap) (L d:Addr):List (Addr × Obj):=(IQ g h L).filter fun p=>decide (p.1≠d)
structure Mod (K:j7) (mg:Str->Option b9) (base:Heap):Prop where
 kin:K.In base
 glob:base.Ns u6 mg
 blt:∃mb,base.Ns kH mb/\∀x:Str,x≠"__name__"->mb x=Z1 x
 nolimit:base.NoLimit
structure Cx where
 prog:i8
 w:t9
 K:j7
 mg:Str->Option b9
 base:Heap
 A:y7
 N:List Str
 s₀:f6
 H₀:Hp
 env:Env
 outer:List Env
 stack:List Env
 ex:List Addr
 fn:Str->Bool
 calm:Bool
 pn:List (Addr × Obj)
 xe:b9->f6->Prop
def dz (l:List Env):List Addr:=l.filterMap (·.frame)
abbrev Cx.fs (X:Cx):List Addr:=dz X.outer
def MV (sc:M8) (x:Str):Prop:=sc.names.lookup x=some .local ∨ sc.names.lookup x=some .cell ∨ sc.names.lookup x=some .free
def OT (sc:M8) (x:Str):Prop:=sc.names.lookup x=some .local ∨ sc.names.lookup x=some .cell
noncomputable def Look (env:Env) (h:Heap) (m:Str->Option b9) (x:Str) (u:b9):Prop :=
 (env.kindOf x=some .local/\m x=some u) ∨ ((env.kindOf x=some .cell ∨ env.kindOf x=some .free)/\∃c,env.cells.lookup x=some c/\h.IsCell c (some u))
structure Cx.Ok (X:Cx):Prop where
 mod:Mod X.K X.mg X.base
 kind:X.env.scope.kind=.function
 glob:X.env.globals=u6
 blt:X.env.builtins=kH
 above:X.s₀.heap.objs.size<=X.env.locals
 inj:∀x y c,X.env.cells.lookup x=some c->X.env.cells.lookup y=some c->x=y
 has:∀x,(X.env.kindOf x=some .cell ∨ X.env.kindOf x=some .free)->∃c,X.env.cells.lookup x=some c
 cab:∀x c,X.fn x=true->X.env.cells.lookup x=some c->X.s₀.heap.objs.size<=c
 hd:X.calm=true->X.A.handled=none
 frames:X.A.frames=some X.stack
 stk:X.stack=X.outer ∨ (X.stack=X.env::X.outer/\X.env.frame=some X.env.locals)
 exf:∀b∈X.ex,b≠X.env.locals/\∀x c,X.env.cells.lookup x=some c->c≠b
 bs:∀b o,X.base.get? b=some o->X.s₀.heap.get? b=some o/\X.H₀ b=none
 bsz:X.base.objs.size<=X.s₀.heap.objs.size
 noex:∀b o,X.base.get? b=some o->b ∉ X.ex
 exfs:∀b∈X.ex,b ∉ X.fs
 funs:X.s₀.heap.FunFrames X.base X.outer
 frf:∀b∈X.fs,X.H₀ b=none
structure C0 (X:Cx) (pins:List (Addr × Obj)) (σ:List (Option V)) (H:Hp) (s:f6):Prop where
 ok:X.Ok
 os:s.os=X.s₀.os
 bare:jk s.gens
 base:Un X.fs X.ex X.H₀ H X.s₀.heap s.heap
 loc:∃m,s.heap.Ns X.env.locals m/\∀(i:Nat) (x:Str) (v:V),X.N[i]?=some x->σ[i]?=some (some v)->MV X.env.scope x->∃u,G9 v u/\Look X.env s.heap m x u
 cell:∀x c,X.env.cells.lookup x=some c->∃v,s.heap.IsCell c v
 free:H X.env.locals=none
 freeC:∀x c,X.env.cells.lookup x=some c->H c=none
 pin:∀p∈X.pn++pins,s.heap.get? p.1=some p.2/\H p.1=none/\p.1≠X.env.locals/\p.1 ∉ X.fs/\∀v,p.2.data≠.cell v
 hok:bU X.prog X.w H s.heap
 len:σ.length=X.N.length
section
variable {X:Cx}{pins:List (Addr × Obj)}{σ:List (Option V)}{H H':Hp}{s:f6}{h':Heap}
theorem Cx.Ok.nofr (ok:X.Ok) {b:Addr}{o:Obj} (e:X.base.get? b=some o):b ∉ X.fs:=fun hb=>by
 have:=(ok.funs.mem hb).1
 rw[e] at this;cases this
theorem C0.bs (I:C0 X pins σ H s):∀b o,X.base.get? b=some o->s.heap.get? b=some o/\H b=none:=fun b o e =>
 ⟨I.base.keep b o (I.ok.bs b o e).1 (I.ok.bs b o e).2 (I.ok.nofr e) (I.ok.noex b o e),I.base.free b o (I.ok.bs b o e).1 (I.ok.bs b o e).2 (I.ok.noex b o e)⟩
theorem C0.bk (I:C0 X pins σ H s):∀b o,X.base.get? b=some o->s.heap.get? b=some o:=fun b o e=>(I.bs b o e).1
theorem C0.mod (I:C0 X pins σ H s):Mod X.K X.mg X.base:=I.ok.mod
theorem C0.kIn (I:C0 X pins σ H s):X.K.In s.heap:=I.ok.mod.kin.keeps I.bk
theorem C0.nolimit (I:C0 X pins σ H s):s.heap.NoLimit:=I.ok.mod.nolimit.keeps I.bk
theorem C0.lt (I:C0 X pins σ H s):X.env.locals<s.heap.objs.size:=let ⟨_,hn,_⟩:=I.loc;hn.lt
theorem C0.sz (I:C0 X pins σ H s):X.s₀.heap.objs.size<=s.heap.objs.size:=j9 I.ok.above (aq I.lt)
theorem C0.nofs (I:C0 X pins σ H s) {a:Addr} (h:s.heap.objs.size<=a):a ∉ X.fs:=fun hb=>by
 obtain⟨_,o,ho,_⟩:=I.ok.funs.mem hb
 exact absurd (y9 (i5 ho) (j9 I.sz h)) (Q3 _)
theorem C0.cne (I:C0 X pins σ H s):∀x c,X.env.cells.lookup x=some c->c≠X.env.locals:=fun x c e z=>by
 obtain⟨v,o,ho,hd⟩:=I.cell x c e
 obtain⟨m,⟨o',es,ep,ho',hd',_⟩,_⟩:=I.loc
 rw[z,ho'] at ho;cases ho;rw[hd'] at hd;cases hd
theorem C0.funs (I:C0 X pins σ H s):s.heap.FunFrames X.base X.outer:=by
 have all:∀(l:List Env),(∀b∈dz l,b∈X.fs)->X.s₀.heap.FunFrames X.base l->s.heap.FunFrames X.base l:=by
  intro l
  induction l with
  | nil=>intro _ _;trivial
  | cons env r ih =>
   intro hs hl
   obtain⟨hk,⟨L,o,hf,hn,ho,hd⟩,hr⟩:=hl
   have hL:L∈X.fs:=hs L (by unfold dz;rw[U5,hf];exact f9)
   obtain⟨sl,e⟩:=I.base.slot L o ho (I.ok.frf L hL) hL fun z=>I.ok.exfs L z hL
   exact⟨hk,⟨L,_,hf,hn,e,hd⟩,ih (fun b hb=>hs b (by unfold dz;rw[U5,hf];exact i4 _ hb)) hr⟩
 exact all X.outer (fun _ hb=>hb) I.ok.funs
theorem C0.stack (I:C0 X pins σ H s):s.heap.FunFrames X.base X.stack:=by
 rcases I.ok.stk with e|⟨e,hf⟩
 ·rw[e];exact I.funs
 ·rw[e]
  obtain⟨m,hn,_⟩:=I.loc
  refine .cons (by rw[I.ok.kind];decide) hf hn ?_ I.funs
  exact aR (j9 I.ok.bsz I.ok.above)
theorem C0.stkSub (I:C0 X pins σ H s):∀b∈dz X.stack,b∈X.env.locals::X.fs:=fun b hb=>by
 rcases I.ok.stk with e|⟨e,hf⟩
 ·rw[e] at hb;exact i4 _ hb
 ·rw[e] at hb
  unfold dz at hb
  rw[U5,hf] at hb
  exact hb
theorem C0.stkFree (I:C0 X pins σ H s):∀b∈dz X.stack,H b=none:=fun b hb=>by
 rcases List.mem_cons.mp (I.stkSub b hb) with e|hb
 ·rw[e];exact I.free
 ·obtain⟨_,o,ho,_⟩:=I.ok.funs.mem hb
  exact I.base.free b o ho (I.ok.frf b hb) fun z=>I.ok.exfs b z hb
variable {t':Nat}{ch:List Addr}
theorem C0.step {g':Array GenState}{d':Drawn}(I:C0 X pins σ H s)
  (hch:∀b∈ch,(b∈X.ex ∨ X.s₀.heap.objs.size<=b)/\b≠X.env.locals/\(∀x c,X.env.cells.lookup x=some c->c≠b)/\∀p∈X.pn++pins,p.1≠b)
  (keep:∀b o,b≠X.env.locals->b ∉ X.fs->b ∉ ch->s.heap.get? b=some o->H b=none->h'.get? b=some o)
  (slot:∀b o,b≠X.env.locals->b∈X.fs->b ∉ ch->s.heap.get? b=some o->H b=none->∃sl,h'.get? b=some { o with slots:=sl }) (free:∀b o,b ∉ ch->s.heap.get? b=some o->H b=none->H' b=none)
  (there:∀b o,b ∉ ch->s.heap.get? b=some o->∃o',h'.get? b=some o')
  (tups:∀b xs,H b=some (.tup xs)->H' b=some (.tup xs)) (frzs:∀b o u,H b=some (.frz o u)->H' b=some (.frz o u)) (tbls:∀b ps,H b=some (.tbl ps)->∃more,H' b=some (.tbl (ps++more)))
  (ns:∀m,s.heap.Ns X.env.locals m->h'.Ns X.env.locals m) (hok:bU X.prog X.w H' h') (hg:jk g'):
  C0 X pins σ H' { s with heap:=h',gens:=g',drawn:=d',toks:=t' }:=by
 have neL:∀b o,X.s₀.heap.get? b=some o->b≠X.env.locals:=fun b o e=>m9 (y9 (i5 e) I.ok.above)
 have neC:∀b o,X.s₀.heap.get? b=some o->b ∉ X.ex->b ∉ ch:=fun b o e hx hb=>by
  rcases (hch b hb).1 with z|z
  ·exact hx z
  ·exact absurd (y9 (i5 e) z) (Q3 _)
 have cellK:∀x c,X.env.cells.lookup x=some c->∀v,s.heap.IsCell c v->h'.IsCell c v:=fun x c e v ⟨o,ho,hd⟩=>by
  have nch:c ∉ ch:=fun z=>(hch c z).2.2.1 x c e rfl
  by_cases hc:c∈X.fs
  ·obtain⟨sl,q⟩:=slot c o (I.cne x c e) hc nch ho (I.freeC x c e)
   exact⟨_,q,hd⟩
  ·exact⟨o,keep c o (I.cne x c e) hc nch ho (I.freeC x c e),hd⟩
 refine⟨I.ok,I.os,hg,⟨fun b o e n hb hx=>?_,fun b o e n hb hx=>?_,fun b o e n hx=>?_,fun b o e hx=>?_,fun b xs e=>tups b xs (I.base.tups b xs e),fun b o xs e=>frzs b o xs (I.base.frzs b o xs e),fun b ps e=>?_⟩,?_,fun x c e=>?_,?_,fun x c e=>?_,fun p hp=>?_,hok,I.len⟩
 ·exact keep b o (neL b o e) hb (neC b o e hx) (I.base.keep b o e n hb hx) (I.base.free b o e n hx)
 ·obtain⟨sl,e1⟩:=I.base.slot b o e n hb hx
  obtain⟨sl',e2⟩:=slot b _ (neL b o e) hb (neC b o e hx) e1 (I.base.free b o e n hx)
  exact⟨sl',e2⟩
 ·obtain⟨o',e1⟩:=I.base.there b o e hx
  exact free b o' (neC b o e hx) e1 (I.base.free b o e n hx)
 ·obtain⟨o',e1⟩:=I.base.there b o e hx
  exact there b o' (neC b o e hx) e1
 ·obtain⟨m1,e1⟩:=I.base.tbls b ps e
  obtain⟨m2,e2⟩:=tbls b _ e1
  exact⟨m1++m2,by rw[e2,lH]⟩
 ·obtain⟨m,hn,hl⟩:=I.loc
  refine⟨m,ns m hn,fun i x v e1 e2 e3=>?_⟩
  obtain⟨u,r,l⟩:=hl i x v e1 e2 e3
  refine⟨u,r,?_⟩
  rcases l with l|⟨k,c,e,z⟩
  ·exact .inl l
  ·exact .inr ⟨k,c,e,cellK x c e _ z⟩
 ·obtain⟨v,z⟩:=I.cell x c e
  exact⟨v,cellK x c e v z⟩
 ·obtain⟨m,⟨o,_,_,ho,_⟩,_⟩:=I.loc
  exact free _ o (fun z=>(hch _ z).2.1 rfl) ho I.free
 ·obtain⟨v,o,ho,hd⟩:=I.cell x c e
  exact free c o (fun z=>(hch c z).2.2.1 x c e rfl) ho (I.freeC x c e)
 ·obtain⟨e,n,ne,nf,d⟩:=I.pin p hp
  have nch:p.1 ∉ ch:=fun z=>(hch p.1 z).2.2.2 p hp rfl
  exact⟨keep p.1 p.2 ne nf nch e n,free p.1 p.2 nch e n,ne,nf,d⟩
theorem C0.un (I:C0 X pins σ H s) (u:Un X.fs [] H H' s.heap h') (hok:bU X.prog X.w H' h'):C0 X pins σ H' { s with heap:=h',toks:=t' }:=by
 obtain⟨m,⟨o,es,ep,ho,r⟩,_⟩:=id I.loc
 obtain⟨sl,hL⟩:=u.any ho I.free (by simp)
 exact I.step (g':=s.gens) (d':=s.drawn) (ch:=[]) (fun _ z=>nomatch z) (fun b o _ hb _ e n=>u.keep b o e n hb (by simp)) (fun b o _ hb _ e n=>u.slot b o e n hb (by simp)) (fun b o _ e n=>u.free b o e n (by simp)) (fun b o _ e=>u.there b o e (by simp)) u.tups u.frzs u.tbls (fun m' hm=>by
  obtain⟨o',es',ep',ho',r'⟩:=hm
  rw[ho] at ho';cases ho'
  exact⟨_,es',ep',hL,r'⟩) hok I.bare
theorem C0.call {g':Array GenState}{d':Drawn}(I:C0 X pins σ H s) (u:Un (dz X.stack) ch H H' s.heap h') (hok:bU X.prog X.w H' h') (hg:jk g')
  (hch:∀b∈ch,(b∈X.ex ∨ X.s₀.heap.objs.size<=b)/\b≠X.env.locals/\(∀x c,X.env.cells.lookup x=some c->c≠b)/\∀p∈X.pn++pins,p.1≠b):
  C0 X pins σ H' { s with heap:=h',gens:=g',drawn:=d',toks:=t' }:=by
 obtain⟨m,⟨o,es,ep,ho,r⟩,_⟩:=id I.loc
 obtain⟨sl,hL⟩:=u.any ho I.free fun z=>(hch _ z).2.1 rfl
 exact I.step (ch:=ch) hch (fun b o hL hb hc e n=>u.keep b o e n (fun z=>(List.mem_cons.mp (I.stkSub b z)).elim hL hb) hc) (fun b o _ _ hc e n=>u.any e n hc) (fun b o hc e n=>u.free b o e n hc) (fun b o hc e=>u.there b o e hc) u.tups u.frzs u.tbls (fun m' hm=>by
  obtain⟨o',es',ep',ho',r'⟩:=hm
  rw[ho] at ho';cases ho'
  exact⟨_,es',ep',hL,r'⟩) hok hg
theorem C0.turned {it:Addr} (I:C0 X pins σ H s) (k:∀b o,b≠it->s.heap.get? b=some o->h'.get? b=some o) (hn:H it=none) (hL:it≠X.env.locals)
  (h1:it∈X.ex ∨ X.s₀.heap.objs.size<=it) (h2:∀x c,X.env.cells.lookup x=some c->c≠it) (h3:∀p∈X.pn++pins,p.1≠it):C0 X pins σ H { s with heap:=h',toks:=t' }:=by
 have nit:∀b u,H b=some u->b≠it:=fun b u e z=>by rw[z,hn] at e;cases e
 refine I.step (g':=s.gens) (d':=s.drawn) (ch:=[it]) (fun b hb=>?_) (fun b o _ _ hc e _=>k b o (fun z=>hc (by simp[z])) e) (fun b o _ _ hc e _=>⟨o.slots,k b o (fun z=>hc (by simp[z])) e⟩) (fun _ _ _ _ n=>n)
  (fun b o hc e=>⟨o,k b o (fun z=>hc (by simp[z])) e⟩) (fun _ _ e=>e) (fun _ _ _ e=>e) (fun b ps e=>⟨#[],by rw[e];simp⟩) (fun m hm=>?_) (fun b u e=>?_) I.bare
 ·have e:b=it:=by simpa using hb
  subst e
  exact⟨h1,hL,h2,h3⟩
 ·obtain⟨o,es,ep,ho,r⟩:=hm
  exact⟨o,es,ep,k _ o (E8 hL) ho,r⟩
 ·refine (I.hok b u e).stay (fun c v hc q=>k c v ?_ q) (fun _ q=>q) fun _ _ q=>q
  rcases hc with z|z
  ·rw[z];exact nit b u e
  ·exact nit c _ z
theorem C0.tok (I:C0 X pins σ H s) (t:Nat):C0 X pins σ H { s with toks:=t }:=I.un (h':=s.heap) (t':=t) Un.refl I.hok
theorem C0.kept {t':Nat} (I:C0 X pins σ H s) (k:∀b u,s.heap.get? b=some u->h'.get? b=some u):C0 X pins σ H { s with heap:=h',toks:=t' }:=I.un (Un.kept k) (I.hok.kept k)
theorem C0.laid {a:Addr}{o:HO}{t':Nat} (I:C0 X pins σ H s) (k:∀b u,s.heap.get? b=some u->h'.get? b=some u) (hp:s.heap.objs.size<=a) (new:P2 X.prog X.w (A6 H a o) h' a o):
  C0 X pins σ (A6 H a o) { s with heap:=h',toks:=t' }:=I.un (Un.laid k hp (I.hok.fresh hp)) (I.hok.laid k hp new)
theorem C0.write {x e:Addr}{o:HO}{t':Nat} (I:C0 X pins σ H s) (mu:OS (H x)) (he:e=x ∨ H e=some (.own x)) (k:∀b u,b≠e->s.heap.get? b=some u->h'.get? b=some u) (heo:∃u,h'.get? e=some u)
  (new:P2 X.prog X.w (A6 H x o) h' x o):C0 X pins σ (A6 H x o) { s with heap:=h',toks:=t' }:=I.un (Un.write mu he k heo) (I.hok.write mu he k heo new)
theorem C0.weak {σ':List (Option V)} (I:C0 X pins σ H s) (hl:σ'.length=σ.length) (w:∀(i:Nat) v,σ'[i]?=some (some v)->σ[i]?=some (some v)):C0 X pins σ' H s :=
 ⟨I.ok,I.os,I.bare,I.base,let ⟨m,hn,hl'⟩:=I.loc;⟨m,hn,fun i x v e1 e2 e3=>hl' i x v e1 (w i v e2) e3⟩,I.cell,I.free,I.freeC,I.pin,I.hok,hl.trans I.len⟩
theorem C0.pins_of {pins':List (Addr × Obj)} (I:C0 X pins σ H s) (h:∀p∈pins',s.heap.get? p.1=some p.2/\H p.1=none/\p.1≠X.env.locals/\p.1 ∉ X.fs/\∀v,p.2.data≠.cell v):C0 X pins' σ H s :=
 ⟨I.ok,I.os,I.bare,I.base,I.loc,I.cell,I.free,I.freeC,fun p hp=>(List.mem_append.mp hp).elim (fun z=>I.pin p (P5 _ z)) (h p),I.hok,I.len⟩
variable {i:Nat}{x:Str}
theorem ph {N:List Str} (hN:N.Nodup) {j:Nat}(a:N[i]?=some x) (b:N[j]?=some x):i=j:=by
 obtain⟨h1,e1⟩:=List.getElem?_eq_some_iff.mp a
 obtain⟨h2,e2⟩:=List.getElem?_eq_some_iff.mp b
 exact(List.getElem_inj hN).mp (e1.trans e2.symm)
theorem rg {M:lB}{A:y7}{E:b9->f6->Prop}{v:V}{u:b9}{Q:Unit->f6->Prop} (I:C0 X pins σ H s) (hN:X.N.Nodup) (hi:X.N[i]?=some x) (hx:OT X.env.scope x) (r:G9 v u)
  (h:∀s',C0 X pins (σ.set i (some v)) H s'->(∃a,E7 a s.heap s'.heap/\(a=X.env.locals ∨ X.env.cells.lookup x=some a))->Q () s') (hf:X.fn x=true ∨ X.env.scope.names.lookup x=some .local:=by first|exact .inl rfl|exact .inr rfl|assumption):j6 M A (storeName X.env x u) Q E s:=by
 obtain⟨m,hn,hl⟩:=id I.loc
 have hcls:(X.env.scope.kind == .class || (X.env.scope.kind == .module&&X.env.locals != X.env.globals))=false:=by rw[I.ok.kind];rfl
 have hiσ:i<σ.length:=by rw[I.len];exact(List.getElem?_eq_some_iff.mp hi).1
 have cne:=I.cne
 have tracked:∀{a:Addr}{h':Heap},(∃o,s.heap.get? a=some o/\H a=none)->E7 a s.heap h'->bU X.prog X.w H h':=fun {a h'} ha hs b ob e=>by
  obtain⟨_,_,hfree⟩:=ha
  refine (I.hok b ob e).stay (fun c w' hc q=>(hs.2 c ?_).trans q) (fun _ q=>q) fun _ _ q=>q
  rintro rfl
  rcases hc with rfl|hc
  ·rw[hfree] at e;cases e
  ·rw[hfree] at hc;cases hc
 rcases hx with hk|hk
 ·refine wpAny_storeName_local hk hn (fun h' hn' hs=>?_) hcls
  obtain⟨oL,_,_,hoL,_⟩:=id hn
  refine h _ ⟨I.ok,I.os,I.bare,⟨fun b o e n hb hx=>?_,fun b o e n hb hx=>?_,I.base.free,fun b o e hx=>?_,I.base.tups,I.base.frzs,I.base.tbls⟩,⟨_,hn',fun j y v' e1 e2 e3=>?_⟩,fun y c e=>?_,I.free,I.freeC,fun p hp=>?_,tracked ⟨oL,hoL,I.free⟩ hs,by simpa using I.len⟩ ⟨_,hs,.inl rfl⟩
  ·exact(hs.2 b (m9 (y9 (i5 e) I.ok.above))).trans (I.base.keep b o e n hb hx)
  ·obtain⟨sl,e1⟩:=I.base.slot b o e n hb hx
   exact⟨sl,(hs.2 b (m9 (y9 (i5 e) I.ok.above))).trans e1⟩
  ·obtain⟨o',e1⟩:=I.base.there b o e hx
   exact⟨o',(hs.2 b (m9 (y9 (i5 e) I.ok.above))).trans e1⟩
  ·by_cases hj:j=i
   ·subst hj
    rw[hi] at e1;cases e1
    rw[aj hiσ] at e2
    cases e2
    exact⟨u,r,.inl ⟨hk,by simp⟩⟩
   ·rw[N6 (E8 hj)] at e2
    obtain⟨u',r',q⟩:=hl j y v' e1 e2 e3
    refine⟨u',r',?_⟩
    rcases q with ⟨k,e⟩|⟨k,c,e,z⟩
    ·refine .inl ⟨k,?_⟩
     have:y≠x:=fun e=>hj (ph hN e1 (e ▸ hi))
     simp[this,e]
    ·exact .inr ⟨k,c,e,z.sameBut hs (cne y c e)⟩
  ·obtain⟨w',z⟩:=I.cell y c e
   exact⟨w',z.sameBut hs (cne y c e)⟩
  ·obtain⟨e,n,ne,nf,d⟩:=I.pin p hp
   exact⟨(hs.2 p.1 ne).trans e,n,ne,nf,d⟩
 ·have hfn:X.fn x=true:=by
   rcases hf with z|z
   ·exact z
   ·rw[z] at hk;cases hk
  obtain⟨c,hc⟩:=I.ok.has x (.inl hk)
  obtain⟨w',z⟩:=I.cell x c hc
  refine wpAny_storeName_cell I.ok.kind hk hc z (fun h' hc' hs=>?_)
  obtain⟨oc,hoc,hocd⟩:=id z
  refine h { s with heap:=h' } ⟨I.ok,I.os,I.bare,⟨fun b o e n hb hx=>?_,fun b o e n hb hx=>?_,I.base.free,fun b o e hx=>?_,I.base.tups,I.base.frzs,I.base.tbls⟩,⟨m,hn.sameBut hs (E8 (cne x c hc)),fun j y v' e1 e2 e3=>?_⟩,fun y c' e=>?_,I.free,I.freeC,fun p hp=>?_,tracked ⟨oc,hoc,I.freeC x c hc⟩ hs,by simpa using I.len⟩ ⟨c,hs,.inr hc⟩
  ·exact(hs.2 b (m9 (y9 (i5 e) (I.ok.cab x c hfn hc)))).trans (I.base.keep b o e n hb hx)
  ·obtain⟨sl,e1⟩:=I.base.slot b o e n hb hx
   exact⟨sl,(hs.2 b (m9 (y9 (i5 e) (I.ok.cab x c hfn hc)))).trans e1⟩
  ·obtain⟨o',e1⟩:=I.base.there b o e hx
   exact⟨o',(hs.2 b (m9 (y9 (i5 e) (I.ok.cab x c hfn hc)))).trans e1⟩
  ·by_cases hj:j=i
   ·subst hj
    rw[hi] at e1;cases e1
    rw[aj hiσ] at e2
    cases e2
    exact⟨u,r,.inr ⟨.inl hk,c,hc,hc'⟩⟩
   ·rw[N6 (E8 hj)] at e2
    obtain⟨u',r',q⟩:=hl j y v' e1 e2 e3
    refine⟨u',r',?_⟩
    rcases q with q|⟨k,c',e,z'⟩
    ·exact .inl q
    ·refine .inr ⟨k,c',e,z'.sameBut hs ?_⟩
     rintro rfl
     exact hj (ph hN e1 (I.ok.inj _ _ _ e hc ▸ hi))
  ·by_cases hcc:c'=c
   ·subst hcc;exact⟨_,hc'⟩
   ·obtain⟨w2,z2⟩:=I.cell y c' e
    exact⟨w2,z2.sameBut hs hcc⟩
  ·obtain⟨e,n,ne,nf,d⟩:=I.pin p hp
   refine⟨(hs.2 p.1 ?_).trans e,n,ne,nf,d⟩
   intro q
   rw[q,hoc] at e
   have q':oc=p.2:=D8 e
   exact d w' (by rw[<- q'];exact hocd)
theorem fW {M:lB}{A:y7}{E:b9->f6->Prop}{v:V}{u:b9}{Q:Unit->f6->Prop} (I:C0 X pins σ H s) (hN:X.N.Nodup) (hi:X.N[i]?=some x) (hx:OT X.env.scope x) (r:G9 v u)
  (h:∀s',C0 X pins (σ.set i (some v)) H s'->Q () s') (hf:X.fn x=true ∨ X.env.scope.names.lookup x=some .local:=by first|exact .inl rfl|exact .inr rfl|assumption):j6 M A (storeName X.env x u) Q E s :=
 rg I hN hi hx r (fun s' I' _=>h s' I') hf
theorem C0.call' {s':f6}(I:C0 X pins σ H s) (ho:s'.os=s.os) (u:Un (dz X.stack) ch H H' s.heap s'.heap) (hok:bU X.prog X.w H' s'.heap) (hg:jk s'.gens)
  (hch:∀b∈ch,(b∈X.ex ∨ X.s₀.heap.objs.size<=b)/\b≠X.env.locals/\(∀x c,X.env.cells.lookup x=some c->c≠b)/\∀p∈X.pn++pins,p.1≠b):C0 X pins σ H' s':=by
 obtain⟨h',g',d',t',o'⟩:=s'
 have e:o'=s.os:=ho
 subst e
 exact I.call (g':=g') (t':=t') (d':=d') u hok hg hch
end
abbrev XK:=b9->Option Addr->Hp->Prop
abbrev St:=List (Option V)
abbrev VK:=V->Hp->Prop
abbrev TE:=St->Hp->VK->Prop
abbrev TT:=St->Hp->(Bool->Hp->Prop)->Prop
abbrev TA:=St->Hp->(List V->Hp->Prop)->Prop
structure nF where
 nx:St->Hp->Prop
 rt:VK
 bk:St->Hp->Prop:=fun _ _=>False
 ct:St->Hp->Prop:=fun _ _=>False
abbrev TS:=nF->St->Hp->Prop
def EP (X:Cx) (pins:List (Addr × Obj)) (σ:St) (Q:VK) (u:b9) (s':f6):Prop:=∃v H',C0 X pins σ H' s'/\G9 v u/\Q v H'
def TP (X:Cx) (pins:List (Addr × Obj)) (σ:St) (Q:Bool->Hp->Prop) (b:Bool) (s':f6):Prop:=∃H',C0 X pins σ H' s'/\Q b H'
def AP (X:Cx) (pins:List (Addr × Obj)) (σ:St) (Q:List V->Hp->Prop) (us:List b9) (s':f6):Prop:=∃vs H',C0 X pins σ H' s'/\G6 vs us/\Q vs H'
noncomputable def SP (X:Cx) (pins:List (Addr × Obj)) (D:nF) (f:Flow) (s':f6):Prop :=
 match f with
 | .next=>∃σ' H',C0 X pins σ' H' s'/\D.nx σ' H'
 | .brk=>∃σ' H',C0 X pins σ' H' s'/\D.bk σ' H'
 | .cont=>∃σ' H',C0 X pins σ' H' s'/\D.ct σ' H'
 | .ret u=>∃v σ' H',C0 X pins σ' H' s'/\G9 v u/\D.rt v H'
noncomputable def PE (X:Cx) (e:Expr) (t:TE):Prop :=
 ∀(pins:List (Addr × Obj)) (s:f6) (σ:St) (H:Hp) (Q:VK),C0 X pins σ H s->t σ H Q->j6 (r0 X.prog X.w) X.A (eval e X.env) (EP X pins σ Q) X.xe s
noncomputable def PT (X:Cx) (e:Expr) (t:TT):Prop :=
 ∀(pins:List (Addr × Obj)) (s:f6) (σ:St) (H:Hp) (Q:Bool->Hp->Prop),C0 X pins σ H s->t σ H Q->j6 (r0 X.prog X.w) X.A (GC e X.env (eval e X.env)) (TP X pins σ Q) X.xe s
noncomputable def PW (X:Cx) (e:Expr) (t:TT):Prop :=
 ∀(whole:Sem b9) (pins:List (Addr × Obj)) (s:f6) (σ:St) (H:Hp) (Q:Bool->Hp->Prop),C0 X pins σ H s->t σ H Q->j6 (r0 X.prog X.w) X.A (GC e X.env whole) (TP X pins σ Q) X.xe s
variable {X:Cx}
theorem PW.pt {e:Expr}{t:TT} (h:PW X e t):PT X e t:=h _
noncomputable def PA (X:Cx) (es:List Expr) (t:TA):Prop :=
 ∀(pos:Pos) (pins:List (Addr × Obj)) (s:f6) (σ:St) (H:Hp) (Q:List V->Hp->Prop),C0 X pins σ H s->t σ H Q->j6 (r0 X.prog X.w) X.A (spliced (V2 pos (A2 es X.env))) (AP X pins σ Q) X.xe s
noncomputable def PS (X:Cx) (st:Stmt) (t:TS):Prop :=
 ∀(pins:List (Addr × Obj)) (s:f6) (σ:St) (H:Hp) (D:nF),C0 X pins σ H s->t D σ H->j6 (r0 X.prog X.w) X.A (exec st X.env) (SP X pins D) X.xe s
noncomputable def qu (X:Cx) (st:List Stmt) (t:TS):Prop :=
 ∀(pins:List (Addr × Obj)) (s:f6) (σ:St) (H:Hp) (D:nF),C0 X pins σ H s->t D σ H->j6 (r0 X.prog X.w) X.A (execs st X.env) (SP X pins D) X.xe s
variable {A:y7}{E:b9->f6->Prop}{s:f6}
theorem P1 {α:Type}{t:Sem α}{Q Q':α->f6->Prop}{M:lB}(h:j6 M A t Q E s) (hQ:∀a s,Q a s->Q' a s):j6 M A t Q' E s:=B5 h hQ fun _ _ x=>x
section
variable {X:Cx}
def Kd (i:Nat):TE:=fun σ H Q=>∃v,σ[i]?=some (some v)/\Q v H
def tC (v:V):TE:=fun _ H Q=>Q v H
variable {x:Str}
theorem tL {i:Nat}{pos:Pos} (hN:X.N[i]?=some x) (hv:MV X.env.scope x) (hd:(x == ("__debug__":Str))=false:=by decide) (hcd:(x == ("__classdict__":Str))=false:=by decide):PE X (.Name x pos) (Kd i):=by
 intro pins s σ H Q I h
 obtain⟨v,e,h⟩:=h
 obtain⟨m,hn,hl⟩:=I.loc
 obtain⟨u,r,l⟩:=hl i x v hN e hv
 have fin:EP X pins σ Q u s:=⟨v,H,I,r,h⟩
 rcases l with ⟨hk,hm⟩|⟨hk,c,hc,hcell⟩
 ·exact Nf (wpAny_loadName_local I.ok.kind hk hn hm fin) hd
 ·rcases hk with hk|hk
  ·exact Nf (wpAny_loadName_cell I.ok.kind hk hc hcell fin) hd
  ·exact Nf (wpAny_loadName_free I.ok.kind hk hc hcell fin hcd) hd
theorem t8 {i j pos}:PE X (.Constant (.int i) j pos) (tC (.int i)):=fun _ _ _ H _ I h=>wpAny_Constant_int ⟨.int i,H,I.tok _,⟨_,rfl⟩,h⟩
theorem iV {b j pos}:PE X (.Constant (.bool b) j pos) (tC (.bl b)):=fun _ _ _ H _ I h=>Constant_bool ⟨.bl b,H,I,rfl,h⟩
theorem tM {j pos}:PE X (.Constant .none j pos) (tC .non):=fun _ _ _ H _ I h=>Constant_none ⟨.non,H,I,rfl,h⟩
theorem D0 {x j pos}:PE X (.Constant (.str x) j pos) (tC (.str x)):=fun _ _ _ H _ I h=>lG ⟨.str x,H,I.tok _,⟨_,rfl⟩,h⟩
def Gl (X:Cx) (x:Str):Prop:=X.env.kindOf x=some .globalImplicit
variable {u:b9}
theorem jt {E:b9->f6->Prop}{pins:List (Addr × Obj)}{s:f6}{σ:St}{H:Hp}{pos:Pos}{Q:b9->f6->Prop} (I:C0 X pins σ H s) (hg:Gl X x) (hm:X.mg x=some u) (h:Q u s)
  (hd:(x == ("__debug__":Str))=false:=by decide):j6 (r0 X.prog X.w) X.A (eval (.Name x pos) X.env) Q E s :=
 sv I.ok.kind hg (Calls.loadGlobal_global (by rw[I.ok.glob];exact I.mod.glob.keeps I.bk) hm h) hd
theorem mq {E:b9->f6->Prop}{pins:List (Addr × Obj)}{s:f6}{σ:St}{H:Hp}{pos:Pos}{Q:b9->f6->Prop} (I:C0 X pins σ H s) (hg:Gl X x) (hm:X.mg x=none) (hv:Z1 x=some u) (h:Q u s)
  (hn:x≠"__name__":=by decide) (hd:(x == ("__debug__":Str))=false:=by decide):j6 (r0 X.prog X.w) X.A (eval (.Name x pos) X.env) Q E s:=by
 obtain⟨mb,h1,h2⟩:=I.mod.blt
 exact sv I.ok.kind hg (Calls.loadGlobal_builtin (by rw[I.ok.glob];exact I.mod.glob.keeps I.bk) hm (by rw[I.ok.blt];exact h1.keeps I.bk) ((h2 x hn).trans hv) h) hd
theorem O6 {v:V}{pos:Pos} (hg:Gl X x) (hm:X.mg x=some u) (r:G9 v u) (hd:(x == ("__debug__":Str))=false:=by decide):PE X (.Name x pos) (tC v):=
 fun _ _ _ H _ I h=>jt I hg hm ⟨v,H,I,r,h⟩ hd
theorem HD {v:V}{pos:Pos} (hg:Gl X x) (hm:X.mg x=none) (hv:Z1 x=some u) (r:G9 v u) (hn:x≠"__name__":=by decide) (hd:(x == ("__debug__":Str))=false:=by decide):PE X (.Name x pos) (tC v):=
 fun _ _ _ H _ I h=>mq I hg hm hv ⟨v,H,I,r,h⟩ hn hd
variable {a b:Expr}{ta tb:TE}{pos:Pos}
noncomputable def PC (X:Cx) (op:Gm) (a b:Expr) (t:TE):Prop :=
 ∀(pins:List (Addr × Obj)) (s:f6) (σ:St) (H:Hp) (Q:VK),C0 X pins σ H s->t σ H Q ->
  j6 (r0 X.prog X.w) X.A (eval a X.env) (fun v s₁=>j6 (r0 X.prog X.w) X.A (eval b X.env) (fun u s₂=>j6 (r0 X.prog X.w) X.A (M4 op v u) (EP X pins σ Q) X.xe s₂) X.xe s₁) X.xe s
theorem EJ (b:Expr) {op:Gm} (h:op≠.In) (h2:op≠.NotIn):cy op b=false:=by
 have e1:(op == CmpOp.In)=false:=by cases op <;> first|rfl|exact absurd rfl h
 have e2:(op == Pn)=false:=by cases op <;> first|rfl|exact absurd rfl h2
 cases b <;> simp[cy,e1,e2]
def tIsN (ta:TE):TE:=fun σ H Q=>ta σ H fun x H1=>Q (.bl (decide (x=.non))) H1
theorem G9.none_iff {x:V}{v:b9} (r:G9 x v):(v == A3)=decide (x=.non):=by
 cases x with
 | non=>cases r;rfl
 | bl _=>cases r;rfl
 | int _=>obtain⟨t,rfl⟩:=r;rfl
 | str _=>obtain⟨t,rfl⟩:=r;rfl
 | byt _=>obtain⟨t,rfl⟩:=r;rfl
 | flt _=>obtain⟨t,rfl⟩:=r;rfl
 | ref _=>cases r;rfl
 | ty _=>cases r;rfl
theorem Ep {j pos'} (ha:PE X a ta):PC X .Is a (.Constant .none j pos') (tIsN ta):=by
 intro pins s σ H Q I h
 refine P1 (ha pins s σ H _ I h) fun v s1 ⟨x,H1,I1,r1,q1⟩=>?_
 exact Constant_none (is_none_gen ⟨.bl _,H1,I1,by rw[r1.none_iff];rfl,q1⟩)
def tB (t:TE):TT:=fun σ H Q=>t σ H fun x H1=>∃c,x=.bl c/\Q c H1
theorem xU {op:Gm}{t:TE} (h:PC X op a b t) (h1:cy op b=false:=by first|exact EJ _ (by decide) (by decide)|rfl):PT X (.Compare a [op] [b] pos) (tB t):=by
 intro pins s σ H Q I hw
 refine IX (P1 (h pins s σ H _ I hw) fun v s1 h1=>P1 h1 fun u s2 h2=>P1 h2 fun c s3 ⟨x,H1,I1,r1,q1⟩=>?_) h1
 obtain⟨d,rfl,q⟩:=q1
 cases r1
 exact R0 ⟨H1,I1,q⟩
theorem az {e:Expr}{t:TE} (h:PE X e t) (he:∀whole,GC e X.env whole=(do let v <- whole;Gy e.pos;kF [v] (truthy v)):=by intro _;rfl):PT X e (tB t):=by
 intro pins s σ H Q I hw
 refine isTrue_plain (P1 (h pins s σ H _ I hw) fun v s1 ⟨x,H1,I1,r1,q1⟩=>?_) (he _)
 obtain⟨d,rfl,q⟩:=q1
 cases r1
 exact R0 ⟨H1,I1,q⟩
variable {tA tB':TT}{V3:List Expr}
def tAnd (t u:TT):TT:=fun σ H Q=>t σ H fun c H1=>if c=true then u σ H1 Q else Q false H1
def tOr (t u:TT):TT:=fun σ H Q=>t σ H fun c H1=>if c=true then Q true H1 else u σ H1 Q
def tNot (t:TT):TT:=fun σ H Q=>t σ H fun c H1=>Q (!c) H1
theorem zA (ha:PT X a tA):PW X (.BoolOp .And [a] pos) tA:=by
 intro wh pins s σ H Q I h
 refine isTrue_and (P1 (ha pins s σ H Q I h) fun c s1 e=>?_)
 cases c with
 | true=>exact isTrue_and_nil e
 | false=>exact e
theorem lU (ha:PT X a tA):PW X (.BoolOp .Or [a] pos) tA:=by
 intro wh pins s σ H Q I h
 refine isTrue_or (P1 (ha pins s σ H Q I h) fun c s1 e=>?_)
 cases c with
 | false=>exact isTrue_or_nil e
 | true=>exact e
theorem DS (ha:PT X a tA) (hb:PW X (.BoolOp .And (b::V3) pos) tB'):PW X (.BoolOp .And (a::b::V3) pos) (tAnd tA tB'):=by
 intro wh pins s σ H Q I h
 refine isTrue_and (P1 (ha pins s σ H _ I h) fun c s1 ⟨H1,I1,q1⟩=>?_)
 cases c with
 | true=>exact hb wh pins s1 σ H1 Q I1 q1
 | false=>exact⟨H1,I1,q1⟩
theorem rn (ha:PT X a tA) (hb:PW X (.BoolOp .Or (b::V3) pos) tB'):PW X (.BoolOp .Or (a::b::V3) pos) (tOr tA tB'):=by
 intro wh pins s σ H Q I h
 refine isTrue_or (P1 (ha pins s σ H _ I h) fun c s1 ⟨H1,I1,q1⟩=>?_)
 cases c with
 | true=>exact⟨H1,I1,q1⟩
 | false=>exact hb wh pins s1 σ H1 Q I1 q1
theorem cB (ha:PT X a tA):PT X (.UnaryOp .Not a pos) (tNot tA):=by
 intro pins s σ H Q I h
 exact isTrue_not (ha pins s σ H (fun c H1=>Q (!c) H1) I h)
def NJ (ta tb:TE):TE:=fun σ H Q=>ta σ H fun x H1=>∃c,x=.bl c/\if c=true then tb σ H1 Q else Q (.bl false) H1
def NC (ta:TE):TE:=fun σ H Q=>ta σ H fun x H1=>∃c,x=.bl c/\Q (.bl (!c)) H1
theorem lX {op}{t:TE} (h:PE X a t):PE X (.BoolOp op [a] pos) t:=fun pins s σ H Q I hw=>BoolOp_one (h pins s σ H Q I hw)
theorem lY (ha:PE X a ta) (hb:PE X (.BoolOp .And (b::V3) pos) tb):PE X (.BoolOp .And (a::b::V3) pos) (NJ ta tb):=by
 intro pins s σ H Q I h
 refine BoolOp_and (P1 (ha pins s σ H _ I h) fun v s1 ⟨x,H1,I1,r1,q1⟩=>?_)
 obtain⟨c,rfl,q1⟩:=q1
 cases r1
 refine R0 ?_
 cases c with
 | true=>exact hb pins s1 σ H1 Q I1 q1
 | false=>exact⟨.bl false,H1,I1,rfl,q1⟩
theorem Lg (ha:PE X a ta):PE X (.UnaryOp .Not a pos) (NC ta):=by
 intro pins s σ H Q I h
 refine UnaryOp_ (P1 (ha pins s σ H _ I h) fun v s1 ⟨x,H1,I1,r1,q1⟩=>?_)
 obtain⟨c,rfl,q1⟩:=q1
 cases r1
 exact not_of (R0 ⟨.bl (!c),H1,I1,rfl,q1⟩)
def tIf (t:TT) (ta tb:TE):TE:=fun σ H Q=>t σ H fun c H1=>if c=true then ta σ H1 Q else tb σ H1 Q
theorem oZ {c:Expr} (hc:PT X c tA) (ha:PE X a ta) (hb:PE X b tb):PE X (.IfExp c a b pos) (tIf tA ta tb):=by
 intro pins s σ H Q I h
 refine wpAny_IfExp (P1 (hc pins s σ H _ I h) fun d s1 ⟨H1,I1,q1⟩=>?_)
 cases d with
 | true=>exact ha pins s1 σ H1 Q I1 q1
 | false=>exact hb pins s1 σ H1 Q I1 q1
end
noncomputable def fM (K:j7) (H:Hp) (a:Addr) (xs:List V):Prop :=
 Rd H a (.lst xs) ∨
  ∃(o:Obj) (its:Array b9) (n:Nat),K.lookup a=some o/\o.cls=.type "list"/\o.dict=none/\o.data=.seq its n/\its.size<=i7/\G6 xs its.toList
noncomputable def fC (K:j7) (H:Hp) (a:Addr) (xs:List V):Prop :=
 Rd H a (.tup xs) ∨
  ∃(o:Obj) (its:Array b9) (n:Nat),K.lookup a=some o/\o.cls=.type "tuple"/\o.data=.seq its n/\its.size<=i7/\G6 xs its.toList
noncomputable def absV:b9->Option V
 | .none=>some .non
 | .bool b=>some (.bl b)
 | .int i _=>some (.int i)
 | .str x _=>some (.str x)
 | .bytes b _=>some (.byt b)
 | .float b _=>some (.flt b)
 | .ref a=>some (.ref a)
 | .type n=>some (.ty n)
 | _=>none
variable {u:b9}
theorem G9.abs {x:V}(r:G9 x u):absV u=some x:=by
 cases x with
 | non=>cases r;rfl
 | bl _=>cases r;rfl
 | int _=>obtain⟨t,rfl⟩:=r;rfl
 | str _=>obtain⟨t,rfl⟩:=r;rfl
 | byt _=>obtain⟨t,rfl⟩:=r;rfl
 | flt _=>obtain⟨t,rfl⟩:=r;rfl
 | ref _=>cases r;rfl
 | ty _=>cases r;rfl
theorem G9.inj {x y:V}(r:G9 x u) (q:G9 y u):x=y:=D8 (r.abs.symm.trans q.abs)
theorem G6.inj:∀{xs ys:List V}{us:List b9},G6 xs us->G6 ys us->xs=ys
 | _,_,_,.nil,.nil=>rfl
 | _,_,_,.cons r t,.cons r' t'=>by rw[r.inj r',G6.inj t t']
section
variable {X:Cx}{pins:List (Addr × Obj)}{σ:St}{H:Hp}{s:f6}{a:Addr}{xs ys:List V}
theorem fM.of {K:j7} (h:H a=some (.lst xs)):fM K H a xs:=.inl (.inl h)
theorem fC.of {K:j7} (h:H a=some (.tup xs)):fC K H a xs:=.inl (.inl h)
theorem C0.list (I:C0 X pins σ H s) (h:fM X.K H a xs):∃its:List b9,G6 xs its/\PlainL s.heap a its.toArray/\xs.length<=i7:=by
 rcases h with h|⟨o,its,n,hk,hc,hd,hs,hz,r⟩
 ·obtain⟨z,its,n,r,e⟩:=h.ok I.hok
  exact⟨its,r,⟨_,n,e,rfl,rfl,rfl⟩,z⟩
 ·refine⟨its.toList,r,⟨o,n,I.kIn a o hk,hc,hd,by simpa using hs⟩,?_⟩
  have e:=r.length
  simp only[B8] at e
  lia
theorem C0.tuple (I:C0 X pins σ H s) (h:fC X.K H a xs):∃its:List b9,G6 xs its/\IsTup s.heap a its.toArray/\xs.length<=i7:=by
 rcases h with h|⟨o,its,n,hk,hc,hs,hz,r⟩
 ·obtain⟨z,its,r,p⟩:=h.ok I.hok
  exact⟨its,r,p,z⟩
 ·refine⟨its.toList,r,⟨o,I.kIn a o hk,hc,n,by simpa using hs⟩,?_⟩
  have e:=r.length
  simp only[B8] at e
  lia
theorem C0.list_inj (I:C0 X pins σ H s) (h:fM X.K H a xs) (h':fM X.K H a ys):xs=ys:=by
 obtain⟨its,r,⟨o,n,e,_,_,d⟩,_⟩:=I.list h
 obtain⟨its',r',⟨o',n',e',_,_,d'⟩,_⟩:=I.list h'
 rw[e] at e';cases e'
 rw[d] at d'
 injection d' with d1 _
 have:its=its':=by simpa using congrArg Nv d1
 subst this
 exact r.inj r'
theorem C0.tuple_inj (I:C0 X pins σ H s) (h:fC X.K H a xs) (h':fC X.K H a ys):xs=ys:=by
 obtain⟨its,r,⟨o,e,_,n,d⟩,_⟩:=I.tuple h
 obtain⟨its',r',⟨o',e',_,n',d'⟩,_⟩:=I.tuple h'
 rw[e] at e';cases e'
 rw[d] at d'
 injection d' with d1 _
 have:its=its':=by simpa using congrArg Nv d1
 subst this
 exact r.inj r'
end
abbrev Cx.wish (X:Cx) (E:b9->f6->Prop):Cx:={ X with xe:=E }
abbrev Cx.nox (X:Cx):Cx:=X.wish fun _ _=>False
theorem Cx.Ok.wish {X:Cx} (ok:X.Ok) (E:b9->f6->Prop):(X.wish E).Ok :=
 ⟨ok.mod,ok.kind,ok.glob,ok.blt,ok.above,ok.inj,ok.has,ok.cab,ok.hd,ok.frames,ok.stk,ok.exf,ok.bs,ok.bsz,ok.noex,ok.exfs,ok.funs,ok.frf⟩
theorem Cx.Ok.unwish (ok:(X.wish E).Ok):X.Ok :=
 ⟨ok.mod,ok.kind,ok.glob,ok.blt,ok.above,ok.inj,ok.has,ok.cab,ok.hd,ok.frames,ok.stk,ok.exf,ok.bs,ok.bsz,ok.noex,ok.exfs,ok.funs,ok.frf⟩
section
variable {X:Cx}{pins:List (Addr × Obj)}{σ:St}{H:Hp}{s:f6}{E:b9->f6->Prop}
theorem C0.wish (I:C0 X pins σ H s) (E:b9->f6->Prop):C0 (X.wish E) pins σ H s:=⟨I.ok.wish E,I.os,I.bare,I.base,I.loc,I.cell,I.free,I.freeC,I.pin,I.hok,I.len⟩
theorem C0.unwish (I:C0 (X.wish E) pins σ H s):C0 X pins σ H s:=⟨I.ok.unwish,I.os,I.bare,I.base,I.loc,I.cell,I.free,I.freeC,I.pin,I.hok,I.len⟩
theorem SP.unwish {D:nF}{f:Flow}{s':f6} (h:SP (X.wish E) pins D f s'):SP X pins D f s':=by
 cases f with
 | next=>obtain⟨σ',H',I,q⟩:=h;exact⟨σ',H',I.unwish,q⟩
 | brk=>obtain⟨σ',H',I,q⟩:=h;exact⟨σ',H',I.unwish,q⟩
 | cont=>obtain⟨σ',H',I,q⟩:=h;exact⟨σ',H',I.unwish,q⟩
 | ret u=>obtain⟨v,σ',H',I,r,q⟩:=h;exact⟨v,σ',H',I.unwish,r,q⟩
theorem qu.nox {st:List Stmt}{t:TS} (h:qu X.nox st t):qu X st t:=fun pins s σ H D I hw =>
 B5 (h pins s σ H D (I.wish _) hw) (fun _ _ q=>q.unwish) fun _ _ z=>D6 z
end
section
variable {X:Cx}{st:Stmt}{V3:List Stmt}{t u:TS}{e:Expr}{te:TE}{pos:Pos}
def Jh:TS:=fun D σ H=>D.nx σ H
def kL (t u:TS):TS:=fun D σ H=>t { D with nx:=u D } σ H
theorem D4:qu X [] Jh:=fun _ _ σ H _ I h=>cH ⟨σ,H,I,h⟩
theorem j5 (h1:PS X st t) (h2:qu X V3 u):qu X (st::V3) (kL t u):=by
 intro pins s σ H D I h
 refine uO (P1 (h1 pins s σ H { D with nx:=u D } I h) fun f s1 q=>?_)
 cases f with
 | next =>
  obtain⟨σ',H',I',q⟩:=q
  exact h2 pins s1 σ' H' D I' q
 | ret v=>exact q
 | brk=>exact q
 | cont=>exact q
theorem n6 (h1:PS X st t):qu X [st] t:=by
 intro pins s σ H D I h
 refine uO (P1 (h1 pins s σ H D I h) fun f s1 q=>?_)
 cases f with
 | next=>exact cH q
 | ret v=>exact q
 | brk=>exact q
 | cont=>exact q
theorem C0.quiet {pins:List (Addr × Obj)}{σ:St}{H:Hp}{s:f6} (I:C0 X pins σ H s):interactive X.env=false:=by simp[interactive,I.ok.kind]
def NG (te:TE):TS:=fun D σ H=>te σ H fun _ H1=>D.nx σ H1
theorem X9 (he:PE X e te) (hs:jH e none pos.line X.env=pure false:=by rfl):PS X (.Expr e pos) (NG te):=by
 intro pins s σ H D I h
 exact wpAny_Expr_any (P1 (he pins s σ H _ I h) fun v s1 ⟨x,H1,I1,r1,q1⟩=>⟨σ,H1,I1,q1⟩) I.quiet hs
def tRet (te:TE):TS:=fun D σ H=>te σ H D.rt
theorem A5 (he:PE X e te):PS X (.Return (some e) pos) (tRet te):=by
 intro pins s σ H D I h
 exact wpAny_Return_some (P1 (he pins s σ H _ I h) fun v s1 ⟨x,H1,I1,r1,q1⟩=>⟨x,σ,H1,I1,r1,q1⟩)
def tIfS (c:TT) (t u:TS):TS:=fun D σ H=>c σ H fun b H1=>if b=true then t D σ H1 else u D σ H1
theorem K4 {c:Expr}{a b:List Stmt}{tc:TT} (hc:PT X c tc) (ha:qu X a t) (hb:qu X b u):PS X (.If c a b pos) (tIfS tc t u):=by
 intro pins s σ H D I h
 refine wpAny_If (P1 (hc pins s σ H _ I h) fun d s1 ⟨H1,I1,q1⟩=>?_)
 cases d with
 | true=>exact ha pins s1 σ H1 D I1 q1
 | false=>exact hb pins s1 σ H1 D I1 q1
end
abbrev TG:=V->St->Hp->(St->Hp->Prop)->Prop
abbrev JB:=List V->St->Hp->(St->Hp->Prop)->Prop
noncomputable def PG (X:Cx) (target:Expr) (t:TG):Prop :=
 ∀(pins:List (Addr × Obj)) (s:f6) (σ:St) (H:Hp) (v:V) (u:b9) (Q:St->Hp->Prop),C0 X pins σ H s->G9 v u->t v σ H Q ->
  j6 (r0 X.prog X.w) X.A (dI target X.env u) (fun _ s'=>∃σ' H',C0 X pins σ' H' s'/\Q σ' H') X.xe s
noncomputable def OQ (X:Cx) (ts:List Expr) (t:JB):Prop :=
 ∀(pins:List (Addr × Obj)) (s:f6) (σ:St) (H:Hp) (vs:List V) (us:List b9) (Q:St->Hp->Prop),C0 X pins σ H s->G6 vs us->t vs σ H Q ->
  j6 (r0 X.prog X.w) X.A (jv ((cS ts X.env).map (·.2)) us) (fun _ s'=>∃σ' H',C0 X pins σ' H' s'/\Q σ' H') X.xe s
abbrev Mu:=V->V->V->Hp->(Hp->Prop)->Prop
noncomputable def OO (X:Cx) (t:Mu):Prop :=
 ∀(pins:List (Addr × Obj)) (s:f6) (σ:St) (H:Hp) (o i v:V) (ov iv u:b9) (Q:Hp->Prop),C0 X pins σ H s->G9 o ov->G9 i iv->G9 v u->t o i v H Q ->
  j6 (r0 X.prog X.w) X.A (setItem ov iv u) (fun _ s'=>∃H',C0 X pins σ H' s'/\Q H') X.xe s
section
variable {X:Cx}{pos:Pos}
def R7 (i:Nat):TG:=fun v σ H Q=>Q (σ.set i (some v)) H
theorem R4 {i:Nat}{x:Str} (hN:X.N.Nodup) (hi:X.N[i]?=some x) (hx:OT X.env.scope x) (hf:X.fn x=true ∨ X.env.scope.names.lookup x=some .local:=by first|exact .inl rfl|exact .inr rfl|assumption):PG X (.Name x pos) (R7 i):=by
 intro pins s σ H v u Q I r h
 exact Pc (fW I hN hi hx r (fun s' I'=>⟨_,H,I',h⟩) hf)
def Fs:JB:=fun vs σ H Q=>vs=[]/\Q σ H
noncomputable def lh (t:TG) (u:JB):JB:=fun vs σ H Q=>∃v r,vs=v::r/\t v σ H fun σ' H'=>u r σ' H' Q
theorem bQ:OQ X [] Fs:=by
 intro pins s σ H vs us Q I r h
 obtain⟨e,h⟩:=h
 subst e
 cases r
 exact Pg ⟨σ,H,I,h⟩
theorem L9 {e:Expr}{es:List Expr}{t:TG}{u:JB} (h1:PG X e t) (h2:OQ X es u)
  (hs:(cS (e::es) X.env).map (·.2)=dI e X.env::(cS es X.env).map (·.2):=by rfl):OQ X (e::es) (lh t u):=by
 intro pins s σ H vs us Q I r h
 obtain⟨v,vr,e1,h⟩:=h
 subst e1
 cases r with
 | cons r rr =>
  rw[hs]
  refine qy (P1 (h1 pins s σ H _ _ _ I r h) fun _ s1 ⟨σ1,H1,I1,q1⟩=>?_)
  exact h2 pins s1 σ1 H1 _ _ Q I1 rr q1
def Bq (K:j7) (n:Nat) (t:JB):TG:=fun v σ H Q=>∃a xs,v=.ref a/\fC K H a xs/\xs.length=n/\t xs σ H Q
theorem jW {es:List Expr}{k:Nat}{t:JB}{n:Nat} (hc:X.calm=true) (h:OQ X es t)
  (hn:(cS es X.env).length=n:=by rfl) (hst:(cS es X.env).findIdx? (·.1)=none:=by rfl):PG X (.Tuple es k pos) (Bq X.K n t):=by
 intro pins s σ H v u Q I r hw
 obtain⟨a,xs,e1,hq,hl,hw⟩:=hw
 subst e1
 cases r
 obtain⟨its,rv,ht,hz⟩:=I.tuple hq
 refine assign_Tuple_tuple (I.ok.hd hc) ht (by simp[hn,<- hl,rv.length]) hst fun h' hx=>?_
 have I1:C0 X pins σ H { s with heap:=h' }:=I.kept (t':=s.toks) fun b o e=>hx b o (m9 (i5 e)) e
 exact h pins _ σ H xs _ Q I1 (by simpa using rv) hw
def gSub (to ti:TE) (t:Mu):TG:=fun v σ H Q=>to σ H fun o H1=>ti σ H1 fun i H2=>t o i v H2 fun H3=>Q σ H3
theorem xW {o i:Expr}{to ti:TE}{t:Mu} (ho:PE X o to) (hi:PE X i ti) (hs:OO X t)
  (ha:∀v,dI (.Subscript o i pos) X.env v=(do
   let ov <- kF [v] (eval o X.env)
   let iv <- kF [v,ov] (eval i X.env)
   Gy pos
   kF [v,ov,iv] (setItem ov iv v)
   release [v,ov,iv] []):=by intro _;rfl):PG X (.Subscript o i pos) (gSub to ti t):=by
 intro pins s σ H v u Q I r h
 rw[ha]
 refine b7 (F0 (P1 (ho pins s σ H _ I h) fun ov s1 ⟨x,H1,I1,r1,q1⟩=>?_))
 refine b7 (F0 (P1 (hi pins s1 σ H1 _ I1 q1) fun iv s2 ⟨y,H2,I2,r2,q2⟩=>?_))
 refine b7 (aO (b7 (F0 (P1 (hs pins s2 σ H2 x y v ov iv u _ I2 r1 r2 r q2) fun _ s3 ⟨H3,I3,q3⟩=>?_))))
 exact wpAny_release ⟨σ,H3,I3,q3⟩
def Kl (te:TE) (g:TG):TS:=fun D σ H=>te σ H fun x H1=>g x σ H1 D.nx
theorem iT {tg e:Expr}{te:TE}{g:TG} (he:PE X e te) (hg:PG X tg g) (hs:swapsWithSole [tg] e pos.line X.env=pure false:=by rfl) (hw:Cf [tg] e X.env=pure none:=by rfl)
  (h1:(cS [tg] X.env).map (·.2)=[dI tg X.env]:=by rfl):PS X (.Assign [tg] e pos) (Kl te g):=by
 intro pins s σ H D I h
 refine wpAny_Assign_stores (P1 (he pins s σ H _ I h) fun v s1 ⟨x,H1,I1,r1,q1⟩=>?_) hs hw
 rw[h1]
 exact P1 (hg pins s1 σ H1 x v _ I1 r1 q1) fun _ s2 q=>q
theorem F7 {i:Nat}{x:Str}{e:Expr}{te:TE}{pos':Pos} (hN:X.N.Nodup) (hi:X.N[i]?=some x) (hx:OT X.env.scope x) (he:PE X e te) (hs:jH e (some (.Name x pos')) pos.line X.env=pure false:=by rfl) (hf:X.fn x=true ∨ X.env.scope.names.lookup x=some .local:=by first|exact .inl rfl|exact .inr rfl|assumption):
  PS X (.Assign [.Name x pos'] e pos) (Kl te (R7 i)):=by
 intro pins s σ H D I h
 refine wpAny_Assign_Name (P1 (he pins s σ H _ I h) fun v s1 ⟨y,H1,I1,r1,q1⟩=>?_) hs
 exact fW I1 hN hi hx r1 (fun s2 I2=>⟨_,H1,I2,q1⟩) hf
def tPar (i j:Nat) (ta:TA):TS:=fun D σ H=>ta σ H fun vs H1=>∃v w,vs=[v,w]/\D.nx ((σ.set i (some v)).set j (some w)) H1
theorem Lc {i j:Nat}{x y:Str}{a b:Expr}{ta:TA}{px py pt:Pos}{kt k2 pt2} (hc:X.calm=true) (hN:X.N.Nodup) (hi:X.N[i]?=some x) (hj:X.N[j]?=some y) (hij:i≠j)
  (hx:X.env.scope.names.lookup x=some .local) (hy:X.env.scope.names.lookup y=some .local) (ha:PA X [a,b] ta)
  (hw:Cf [.Tuple [.Name x px,.Name y py] kt pt] (.Tuple [a,b] k2 pt2) X.env=pure (some [x,y]))
  (hs:swapsWithSole [.Tuple [.Name x px,.Name y py] kt pt] (.Tuple [a,b] k2 pt2) pos.line X.env=pure false:=by rfl):
  PS X (.Assign [.Tuple [.Name x px,.Name y py] kt pt] (.Tuple [a,b] k2 pt2) pos) (tPar i j ta):=by
 intro pins s σ H D I h
 rw[exec_Assign_arm]
 refine b7 (aO ?_)
 rw[hs]
 refine b7 (g0 ?_)
 rw[if_neg (by decide)]
 refine b7 (Tuple_ (P1 (ha _ pins s σ H _ I h) fun us s1 ⟨vs,H1,I1,r1,q1⟩=>?_))
 obtain⟨v,w,e1,q1⟩:=q1
 subst e1
 obtain⟨u1,u2,rfl,rv,rw'⟩:∃u1 u2,us=[u1,u2]/\G9 v u1/\G9 w u2:=by
  cases r1 with
  | cons p q =>
   cases q with
   | cons p' q' =>
    cases q'
    exact⟨_,_,rfl,p,p'⟩
 refine E6 ?_ (by show 2<=i7;decide)
 have I2:C0 X pins σ H1 { s1 with heap:=s1.heap.push { cls:=.type "tuple",data:=.seq [u1,u2].toArray } }:=I1.kept (t':=s1.toks) fun b o e=>d9 _ e
 rw[hw]
 refine b7 (g0 ?_)
 show j6 (r0 X.prog X.w) X.A (do rule "assign.swapped-stores";let items <- JJ (.ref s1.heap.objs.size) 2 none;jv [fun v=>Aq X.env y v,fun v=>Aq X.env x v] items.reverse;pure Flow.next) _ _ _
 refine b7 (kC (b7 (unpackItems_tuple (items:=#[u1,u2]) (I.ok.hd hc) (IsTup.new s1.heap _) fun h' hx'=>?_)))
 have I3:=I2.kept (h':=h') (t':=s1.toks) fun b o e=>hx' b o (m9 (i5 e)) e
 show j6 _ _ (jv [fun v=>Aq X.env y v,fun v=>Aq X.env x v] [u2,u1] >>= fun _=>pure Flow.next) _ _ _
 refine b7 (qy (Al (fW I3 hN hj (.inl hy) rw' (fun s2 I4=>?_) (.inr hy))))
 refine qy (Al (fW I4 hN hi (.inl hx) rv (fun s3 I5=>Pg (g0 ?_)) (.inr hx)))
 rw[List.set_comm _ _ (E8 hij)] at I5
 exact⟨_,H1,I5,q1⟩
def Kc (c:TT) (tb:TS):TS:=fun D σ H=>∃W:Nat->St->Hp->Prop,(∃m,W m σ H)/\∀m σ H,W m σ H ->
 c σ H fun b H1=>if b=true then ∃N:St->Hp->Prop,(∀σ' H',N σ' H'->∃m',m'<m/\W m' σ' H')/\tb { D with nx:=N,ct:=N,bk:=D.nx } σ H1 else D.nx σ H1
theorem DW {c:Expr}{body:List Stmt}{tc:TT}{tb:TS} (hp:PassesOwn (r0 X.prog X.w) X.A X.env X.xe) (hc:PT X c tc) (hb:qu X body tb):PS X (.While c body [] pos) (Kc tc tb):=by
 intro pins s σ H D I h
 obtain⟨W,⟨m0,w0⟩,turn⟩:=h
 refine wpAny_While (codeAny_whileLoop (fun n s'=>∃σ' H',C0 X pins σ' H' s'/\W n σ' H') ?_ m0 ⟨σ,H,I,w0⟩)
 rintro n s1 ⟨σ1,H1,I1,w1⟩
 refine aK hp (P1 (hc pins s1 σ1 H1 _ I1 (turn n σ1 H1 w1)) fun b s2 ⟨H2,I2,q2⟩=>?_)
 cases b with
 | true =>
  obtain⟨N,hN,q2⟩:=q2
  rw[if_pos rfl]
  refine aK hp (P1 (hb pins s2 σ1 H2 _ I2 q2) fun f s3 q3=>?_)
  cases f with
  | next =>
   obtain⟨σ3,H3,I3,n3⟩:=q3
   obtain⟨m',hm,w3⟩:=hN σ3 H3 n3
   exact⟨m',hm,σ3,H3,I3,w3⟩
  | cont =>
   obtain⟨σ3,H3,I3,n3⟩:=q3
   obtain⟨m',hm,w3⟩:=hN σ3 H3 n3
   exact⟨m',hm,σ3,H3,I3,w3⟩
  | brk=>exact q3
  | ret v=>exact q3
 | false =>
  rw[if_neg u7]
  exact cH ⟨σ1,H2,I2,q2⟩
end
structure It where
 go:Nat->Hp->Prop
 yld:Nat->Hp->V->Hp->Prop
 stop:Nat->Hp->Prop
noncomputable def eR (X:Cx) (pins:List (Addr × Obj)) (H:Hp) (b:Addr):Prop :=
 H b=none/\b≠X.env.locals/\b ∉ X.fs/\(b∈X.ex ∨ X.s₀.heap.objs.size<=b)/\(∀x c,X.env.cells.lookup x=some c->c≠b)/\∀p∈X.pn++pins,p.1≠b
variable {σ:St}
theorem C0.fpOk {pins:List (Addr × Obj)}{H':Hp}(I:C0 X pins σ H s) (hb:s.heap.objs.size<=b) (hn:H' b=none):eR X pins H' b:=by
 refine⟨hn,B7 (y9 I.lt hb),I.nofs hb,.inr (j9 I.sz hb),fun x c e z=>?_,fun p hp z=>?_⟩
 ·obtain⟨v,q⟩:=I.cell x c e
  exact absurd (y9 q.lt (by rw[z];exact hb)) (Q3 _)
 ·exact absurd (y9 (i5 (I.pin p hp).1) (by rw[z];exact hb)) (Q3 _)
structure nE (P:i8) (w:t9) (K:j7) (tg:Expr) (J:It) (fp:List Addr) (it:Addr) (tn:Nat->Heap->Prop):Prop where
 mem:it∈fp
 obj:∀i h,tn i h->∀b∈fp,∃o,h.get? b=some o/\∀v,o.data≠.cell v
 keep:∀i h h',tn i h->(∀b∈fp,∀o,h.get? b=some o->h'.get? b=some o)->tn i h'
 item:∀(X:Cx),X.prog=P->X.w=w->X.K=K->X.calm=true->∀(i:Nat) (pins:List (Addr × Obj)) (s:f6) (σ:St) (H:Hp) (E:b9->f6->Prop),C0 X pins σ H s->(∀b∈fp,eR X pins H b)->tn i s.heap->J.go i H ->
  j6 (r0 P w) X.A (Y4 (.ref it)) (fun r s1=>∃u,r=some u /\
   j6 (r0 P w) X.A (aL tg (.ref it) u) (fun _ s2=>∃x H',C0 X pins σ H' s2/\G9 x u/\J.yld i H x H'/\tn (i+1) s2.heap/\∀b∈fp,H' b=none) E s1) E s
 done:∀(X:Cx),X.prog=P->X.w=w->X.K=K->X.calm=true->∀(i:Nat) (pins:List (Addr × Obj)) (s:f6) (σ:St) (H:Hp) (E:b9->f6->Prop),C0 X pins σ H s->(∀b∈fp,eR X pins H b)->tn i s.heap->J.stop i H ->
  j6 (r0 P w) X.A (Y4 (.ref it)) (fun r s1=>r=none/\C0 X pins σ H s1) E s
 self:∀(A:y7) (i:Nat) (s:f6) (Q:b9->f6->Prop) (E:b9->f6->Prop),tn i s.heap->Q (.ref it) s->j6 (r0 P w) A (qv (.ref it)) Q E s
abbrev TI:=St->Hp->(It->Hp->Prop)->Prop
noncomputable def OP (X:Cx) (pins:List (Addr × Obj)) (σ:St) (tg:Expr) (R:It->Hp->Prop) (itv:b9) (s2:f6):Prop :=
 ∃(it:Addr) (fp:List Addr) (tn:Nat->Heap->Prop) (J:It) (H':Hp),itv=.ref it/\C0 X pins σ H' s2/\nE X.prog X.w X.K tg J fp it tn/\tn 0 s2.heap/\(∀b∈fp,eR X pins H' b)/\R J H'
noncomputable def PI (X:Cx) (tg iter:Expr) (wi:TI):Prop :=
 ∀(pins:List (Addr × Obj)) (s:f6) (σ:St) (H:Hp) (R:It->Hp->Prop),C0 X pins σ H s->wi σ H R ->
  j6 (r0 X.prog X.w) X.A (eval iter X.env) (fun v s1=>j6 (r0 X.prog X.w) X.A (qv v) (OP X pins σ tg R) X.xe s1) X.xe s
variable {tg:Expr}
theorem zQ {M:lB}{it:Addr}{o:Obj}{n:String}{vs:Array b9}{Q:Unit->f6->Prop} (ho:s.heap.get? it=some o) (hc:o.cls=.type n) (hd:o.data=.fields vs)
  (hn:["enumerate","zip","dict_itemiterator","dict_reverseitemiterator","odict_iterator","itertools.zip_longest","itertools.pairwise"].contains n=false) (hQ:Q () s):j6 M A (aL tg (.ref it) u) Q E s:=by
 unfold aL
 cases tg <;> first
  | exact g0 hQ
  | (cases u <;> first
    | exact g0 hQ
    | (refine b7 (Nc ho ?_)
       rw[hc,hd]
       show j6 M A (if (["enumerate","zip","dict_itemiterator","dict_reverseitemiterator","odict_iterator","itertools.zip_longest","itertools.pairwise"].contains n&&vs[0]? == some (P0 _))=true then _ else _) Q E s
       rw[if_neg (by intro h;rw[hn,V8] at h;cases h)]
       exact g0 hQ))
noncomputable def Mz (K:j7) (a:Addr):It :=
 ⟨fun i H=>∃xs x,fM K H a xs/\xs[i]?=some x,fun i H x H'=>H'=H/\∀xs,fM K H a xs->xs[i]?=some x,fun i H=>∃xs,fM K H a xs/\xs.length<=i⟩
noncomputable def Itt (K:j7) (a:Addr):It :=
 ⟨fun i H=>∃xs x,fC K H a xs/\xs[i]?=some x,fun i H x H'=>H'=H/\∀xs,fC K H a xs->xs[i]?=some x,fun i H=>∃xs,fC K H a xs/\xs.length<=i⟩
noncomputable def JG (lo:Int) (n:Nat):It:=⟨fun i _=>i<n,fun i H x H'=>H'=H/\x=.int (lo+i),fun i _=>n<=i⟩
variable {K:j7}
theorem AF (a it:Addr):nE P w K tg (Mz K a) [it] it (fun i h=>h.IsListIter it a i) where
 mem:=by simp
 obj:=fun i h st b hb=>by
  have e:b=it:=by simpa using hb
  subst e
  obtain⟨o,e,c,d⟩:=st
  exact⟨o,e,fun v z=>by rw[d] at z;cases z⟩
 keep:=fun i h h' st k=>st.at fun o e=>k it (by simp) o e
 item:=by
  intro X hP hw hK hc i pins s σ H E I hf st hg
  subst hP hw hK
  obtain⟨xs,x,hq,hx⟩:=hg
  obtain⟨its,rv,p,hz⟩:=I.list hq
  obtain⟨u,hu,ru⟩:=rv.get hx
  obtain⟨f0,f1,f2,f3,f4,f5⟩:=hf it (by simp)
  refine Gw st p.isList (x:=u) (by simpa using hu) fun h' st' sb=>?_
  have I1:C0 X pins σ H { s with heap:=h' }:=I.turned (t':=s.toks) (fun b o hb e=>(sb.2 b hb).trans e) f0 f1 f3 f4 f5
  obtain⟨o,e,c,d⟩:=id st'
  exact⟨u,rfl,zQ (s:={ s with heap:=h' }) e c d (by decide) ⟨x,H,I1,ru,⟨rfl,fun ys hy=>by rw[I.list_inj hy hq];exact hx⟩,st',fun b hb=>(hf b hb).1⟩⟩
 done:=by
  intro X hP hw hK hc i pins s σ H E I hf st hg
  subst hP hw hK
  obtain⟨xs,hq,hx⟩:=hg
  obtain⟨its,rv,p,hz⟩:=I.list hq
  obtain⟨f0,f1,f2,f3,f4,f5⟩:=hf it (by simp)
  have hl:=rv.length
  exact wpAny_pyNext_list_end (I.ok.hd hc) st p.isList (by simp;lia) fun h' eb=>⟨rfl,I.turned (t':=s.toks) (fun b o hb e=>eb b o hb e) f0 f1 f3 f4 f5⟩
 self:=fun _ _ _ _ _ st h=>wpAny_pyIter_listiter st h
theorem wY (a it:Addr):nE P w K tg (Itt K a) [it] it (fun i h=>h.IsTupleIter it a i) where
 mem:=by simp
 obj:=fun i h st b hb=>by
  have e:b=it:=by simpa using hb
  subst e
  obtain⟨o,e,c,d⟩:=st
  exact⟨o,e,fun v z=>by rw[d] at z;cases z⟩
 keep:=fun i h h' st k=>st.at fun o e=>k it (by simp) o e
 item:=by
  intro X hP hw hK hc i pins s σ H E I hf st hg
  subst hP hw hK
  obtain⟨xs,x,hq,hx⟩:=hg
  obtain⟨its,rv,p,hz⟩:=I.tuple hq
  obtain⟨u,hu,ru⟩:=rv.get hx
  obtain⟨f0,f1,f2,f3,f4,f5⟩:=hf it (by simp)
  refine wpAny_pyNext_tuple_item st (show s.heap.IsTuple a its.toArray from p) (x:=u) (by simpa using hu) fun h' st' sb=>?_
  have I1:C0 X pins σ H { s with heap:=h' }:=I.turned (t':=s.toks) (fun b o hb e=>(sb.2 b hb).trans e) f0 f1 f3 f4 f5
  obtain⟨o,e,c,d⟩:=id st'
  exact⟨u,rfl,zQ (s:={ s with heap:=h' }) e c d (by decide) ⟨x,H,I1,ru,⟨rfl,fun ys hy=>by rw[I.tuple_inj hy hq];exact hx⟩,st',fun b hb=>(hf b hb).1⟩⟩
 done:=by
  intro X hP hw hK hc i pins s σ H E I hf st hg
  subst hP hw hK
  obtain⟨xs,hq,hx⟩:=hg
  obtain⟨its,rv,p,hz⟩:=I.tuple hq
  obtain⟨f0,f1,f2,f3,f4,f5⟩:=hf it (by simp)
  have hl:=rv.length
  exact wpAny_pyNext_tuple_end (I.ok.hd hc) st (show s.heap.IsTuple a its.toArray from p) (by simp;lia) fun h' eb=>⟨rfl,I.turned (t':=s.toks) (fun b o hb e=>eb b o hb e) f0 f1 f3 f4 f5⟩
 self:=fun _ _ _ _ _ st h=>wpAny_pyIter_tupleiter st h
theorem wZ (it:Addr) (lo:Int) (n:Nat):nE P w K tg (JG lo n) [it] it (fun i h=>IsRangeIter h it (lo+(i:Nat)*1) ((n:Int) - (i:Nat)) 1) where
 mem:=by simp
 obj:=fun i h st b hb=>by
  have e:b=it:=by simpa using hb
  subst e
  exact⟨_,st,fun v z=>by
   have z':Data.fields _=Data.cell v:=z
   cases z'⟩
 keep:=fun i h h' st k=>k it (by simp) _ st
 item:=by
  intro X hP hw hK hc i pins s σ H E I hf st hg
  subst hP hw hK
  obtain⟨f0,f1,f2,f3,f4,f5⟩:=hf it (by simp)
  have W:=Walks.range (prog:=X.prog) (w:=X.w) (I.ok.hd hc) it lo 1 n
  refine W.item i s _ _ hg st fun v h' tk hv st' kk=>?_
  obtain⟨t,rfl⟩:=hv
  have I1:C0 X pins σ H { s with heap:=h',toks:=tk }:=I.turned (fun b o hb e=>kk b o (by simpa using hb) e) f0 f1 f3 f4 f5
  refine⟨_,rfl,zQ (s:={ s with heap:=h',toks:=tk }) (n:="range_iterator") st' rfl rfl (by decide) ⟨.int (lo+i),H,I1,⟨t,?_⟩,⟨rfl,rfl⟩,st',fun b hb=>(hf b hb).1⟩⟩
  rw[Int.mul_one]
 done:=by
  intro X hP hw hK hc i pins s σ H E I hf st hg
  subst hP hw hK
  obtain⟨f0,f1,f2,f3,f4,f5⟩:=hf it (by simp)
  exact wpAny_pyNext_range_end (I.ok.hd hc) st (by have:n<=i:=hg;lia) fun h' eb=>⟨rfl,I.turned (t':=s.toks) (fun b o hb e=>eb b o hb e) f0 f1 f3 f4 f5⟩
 self:=fun _ _ _ _ _ st h=>wpAny_pyIter_rangeiter st h
section
variable {X:Cx}{tg:Expr}
def OI (K:j7) (tl:TE):TI:=fun σ H R=>tl σ H fun x H1=>∃a,x=.ref a/\(∃xs,fM K H1 a xs)/\R (Mz K a) H1
def iTup (K:j7) (tl:TE):TI:=fun σ H R=>tl σ H fun x H1=>∃a,x=.ref a/\(∃xs,fC K H1 a xs)/\R (Itt K a) H1
theorem gR {l:Expr}{tl:TE} (hl:PE X l tl):PI X tg l (OI X.K tl):=by
 intro pins s σ H R I h
 refine P1 (hl pins s σ H _ I h) fun v s1 ⟨x,H1,I1,r1,q1⟩=>?_
 obtain⟨a,e,⟨xs,hq⟩,q⟩:=q1
 subst e
 cases r1
 obtain⟨its,rv,p,hz⟩:=I1.list hq
 refine jf p.isList ?_
 refine⟨s1.heap.objs.size,[s1.heap.objs.size],_,_,H1,rfl,I1.kept (t':=s1.toks) fun b o e=>d9 _ e,AF a _,⟨_,j8 _ rfl,rfl,rfl⟩,fun b hb=>?_,q⟩
 have e:b=s1.heap.objs.size:=by simpa using hb
 subst e
 exact I1.fpOk (i9 _) (I1.hok.fresh (i9 _))
theorem jV {l:Expr}{tl:TE} (hl:PE X l tl):PI X tg l (iTup X.K tl):=by
 intro pins s σ H R I h
 refine P1 (hl pins s σ H _ I h) fun v s1 ⟨x,H1,I1,r1,q1⟩=>?_
 obtain⟨a,e,⟨xs,hq⟩,q⟩:=q1
 subst e
 cases r1
 obtain⟨its,rv,p,hz⟩:=I1.tuple hq
 refine aC (show s1.heap.IsTuple a its.toArray from p) ?_
 refine⟨s1.heap.objs.size,[s1.heap.objs.size],_,_,H1,rfl,I1.kept (t':=s1.toks) fun b o e=>d9 _ e,wY a _,⟨_,j8 _ rfl,rfl,rfl⟩,fun b hb=>?_,q⟩
 have e:b=s1.heap.objs.size:=by simpa using hb
 subst e
 exact I1.fpOk (i9 _) (I1.hok.fresh (i9 _))
variable {pins:List (Addr × Obj)}{σ:St}{H:Hp}{s:f6}
theorem DQ {R:It->Hp->Prop}{E:b9->f6->Prop}{lo hi:Int}{t u v:Tok}{tk:Nat} (I:C0 X pins σ H s) (h1:-(2 ^ 62)<=lo) (h2:lo<2 ^ 62) (h3:-(2 ^ 62)<=hi) (h4:hi<2 ^ 62)
  (q:R (JG lo (hi - lo).toNat) H):j6 (r0 X.prog X.w) X.A (qv (.ref s.heap.objs.size)) (OP X pins σ tg R) E { s with heap:=s.heap.push { cls:=.type "range",data:=.fields #[.int lo t,.int hi u,.int 1 v] },toks:=tk }:=by
 refine wpAny_pyIter_range (IsRange.new ..) (small_one h1 h2 h3 h4) ?_
 have I1:C0 X pins σ H { s with heap:=s.heap.push { cls:=.type "range",data:=.fields #[.int lo t,.int hi u,.int 1 v] },toks:=tk }:=I.kept fun b o e=>d9 _ e
 refine⟨(s.heap.push { cls:=.type "range",data:=.fields #[.int lo t,.int hi u,.int 1 v] }).objs.size,[(s.heap.push { cls:=.type "range",data:=.fields #[.int lo t,.int hi u,.int 1 v] }).objs.size],_,_,H,rfl,
  I1.kept (t':=tk) fun b o e=>d9 _ e,wZ _ lo (hi - lo).toNat,?_,fun b hb=>?_,q⟩
 ·have e1:lo+((0:Nat):Int)*1=lo:=by simp
  have e2:(((hi - lo).toNat:Nat):Int) - ((0:Nat):Int)=Builtin.Range.rangeSize lo hi 1:=by rw[rangeSize_one];split <;> lia
  show IsRangeIter _ _ (lo+((0:Nat):Int)*1) ((((hi - lo).toNat:Nat):Int) - ((0:Nat):Int)) 1
  rw[e1,e2]
  exact j8 _ rfl
 ·have e:b=(s.heap.push { cls:=.type "range",data:=.fields #[.int lo t,.int hi u,.int 1 v] }).objs.size:=by simpa using hb
  subst e
  exact I1.fpOk (i9 _) (I1.hok.fresh (i9 _))
def OH (ta:TA):TI:=fun σ H R=>ta σ H fun vs H1=>∃j:Int,vs=[.int j]/\-(2 ^ 62)<=j/\j<2 ^ 62/\R (JG 0 j.toNat) H1
theorem U3 {a:Expr}{ta:TA}{p pos:Pos} (hg:Gl X "range") (hm:X.mg "range"=none) (ha:PA X [a] ta) (hs:A2 [a] X.env=[(false,eval a X.env)]:=by rfl):PI X tg (.Call (.Name "range" p) [a] [] pos) (OH ta):=by
 intro pins s σ H R I h
 refine Call_ (mq I hg hm boot_range (Z5 (P1 (ha pos pins s σ H _ I h) fun us s1 ⟨vs,H1,I1,r1,q1⟩=>?_) hs rfl))
 obtain⟨j,e,q1,q2,q⟩:=q1
 subst e
 cases r1 with
 | cons r rr =>
  cases rr
  obtain⟨t,rfl⟩:=r
  exact call_range_1 (DQ I1 (by lia) (by lia) q1 q2 (by simpa using q))
def NF (wi:TI) (g:TG) (tb:TS):TS:=fun D σ H=>wi σ H fun J H1=>∃W:Nat->Nat->St->Hp->Prop,(∃m,W 0 m σ H1)/\∀i m σ H,W i m σ H ->
 (J.stop i H/\D.nx σ H) ∨ (J.go i H/\∃N:St->Hp->Prop,(∀σ' H',N σ' H'->∃m',m'<m/\W (i+1) m' σ' H')/\∀x H',J.yld i H x H'->g x σ H' fun σ2 H2=>tb { D with nx:=N,ct:=N,bk:=D.nx } σ2 H2)
noncomputable def tK (fp:List Addr) (h:Heap):List (Addr × Obj):=fp.filterMap fun b=>(h.get? b).map fun o=>(b,o)
variable {fp:List Addr}
theorem S5 {h:Heap}{b:Addr}{o:Obj} (hb:b∈fp) (e:h.get? b=some o):(b,o)∈tK fp h:=List.mem_filterMap.mpr ⟨b,hb,by rw[e];rfl⟩
theorem Ba {h:Heap}{p:Addr × Obj} (hp:p∈tK fp h):p.1∈fp/\h.get? p.1=some p.2:=by
 obtain⟨b,hb,e⟩:=List.mem_filterMap.mp hp
 cases q:h.get? b with
 | none=>rw[q] at e;cases e
 | some o =>
  rw[q] at e
  have e':(b,o)=p:=D8 e
  subst e'
  exact⟨hb,q⟩
theorem C0.pinned (I:C0 X pins σ H s) (hf:∀b∈fp,eR X pins H b) (ho:∀b∈fp,∃o,s.heap.get? b=some o/\∀v,o.data≠.cell v):C0 X (pins++tK fp s.heap) σ H s :=
 I.pins_of fun p hp=>(List.mem_append.mp hp).elim (fun z=>I.pin p (n5 _ z)) fun z=>by
  obtain⟨hb,e⟩:=Ba z
  obtain⟨f0,f1,f2,_⟩:=hf p.1 hb
  obtain⟨o,e',d⟩:=ho p.1 hb
  rw[e] at e';cases e'
  exact⟨e,f0,f1,f2,d⟩
theorem C0.unpinned {pl:List (Addr × Obj)}(I:C0 X (pins++pl) σ H s):C0 X pins σ H s:=I.pins_of fun p hp=>I.pin p (n5 _ (P5 _ hp))
theorem lV {iter:Expr}{body:List Stmt}{wi:TI}{g:TG}{tb:TS}{pos:Pos} (hp:PassesOwn (r0 X.prog X.w) X.A X.env X.xe) (hc:X.calm=true) (hi:PI X tg iter wi) (hg:PG X tg g) (hb:qu X body tb)
  (hs:∀x,dE iter X.env x=pure x:=by intro _;rfl):PS X (.For tg iter body [] pos) (NF wi g tb):=by
 intro pins s σ H D I h
 refine wpAny_For (P1 (hi pins s σ H _ I h) fun v s1 h1=>P1 h1 fun itv s2 h2=>?_) hs
 obtain⟨it,fp,tn,J,H2,e,I2,T,st2,f2,W,⟨m0,w0⟩,turn⟩:=h2
 subst e
 have stat:∀{H':Hp},(∀b∈fp,H' b=none)->∀b∈fp,eR X pins H' b:=fun hn b hb=>⟨hn b hb,(f2 b hb).2⟩
 refine codeAny_forLoop_any (fun n s'=>∃i σ' H',C0 X pins σ' H' s'/\tn i s'.heap/\(∀b∈fp,H' b=none)/\W i n σ' H') ?_ m0 ⟨0,σ,H2,I2,st2,fun b hb=>(f2 b hb).1,w0⟩
 rintro n s3 ⟨i,σ3,H3,I3,st3,fr3,w3⟩
 rcases turn i n σ3 H3 w3 with ⟨stop,qn⟩|⟨go,N,hN,step⟩
 ·refine aK hp (P1 (T.done X rfl rfl rfl hc i pins s3 σ3 H3 X.xe I3 (stat fr3) st3 stop) fun r s4 ⟨hr,I4⟩=>?_)
  subst hr
  exact cH ⟨σ3,H3,I4,qn⟩
 ·refine aK hp (P1 (T.item X rfl rfl rfl hc i pins s3 σ3 H3 X.xe I3 (stat fr3) st3 go) fun r s4 ⟨u,hr,h4⟩=>?_)
  subst hr
  refine aK hp (P1 h4 fun _ s5 ⟨x,H5,I5,r5,y5,st5,fr5⟩=>?_)
  have I5':=I5.pinned (stat fr5) (T.obj _ _ st5)
  refine aK hp (P1 (hg _ s5 σ3 H5 x u _ I5' r5 (step x H5 y5)) fun _ s6 ⟨σ6,H6,I6,q6⟩=>?_)
  refine aK hp (P1 (hb _ s6 σ6 H6 _ I6 q6) fun f s7 q7=>?_)
  have again:∀{σ7:St}{H7:Hp},C0 X (pins++tK fp s5.heap) σ7 H7 s7->N σ7 H7->∃m,m<n/\∃i σ' H',C0 X pins σ' H' s7/\tn i s7.heap/\(∀b∈fp,H' b=none)/\W i m σ' H':=fun {σ7 H7} I7 n7=>by
   obtain⟨m',hm,w7⟩:=hN σ7 H7 n7
   refine⟨m',hm,i+1,σ7,H7,I7.unpinned,T.keep _ _ _ st5 fun b hb o e=>(I7.pin (b,o) (n5 _ (n5 _ (S5 hb e)))).1,fun b hb=>?_,w7⟩
   obtain⟨o,e,d⟩:=T.obj _ _ st5 b hb
   exact(I7.pin (b,o) (n5 _ (n5 _ (S5 hb e)))).2.1
  cases f with
  | next=>obtain⟨σ7,H7,I7,n7⟩:=q7;exact again I7 n7
  | cont=>obtain⟨σ7,H7,I7,n7⟩:=q7;exact again I7 n7
  | brk=>obtain⟨σ7,H7,I7,q7⟩:=q7;exact⟨σ7,H7,I7.unpinned,q7⟩
  | ret v=>obtain⟨x7,σ7,H7,I7,r7,q7⟩:=q7;exact⟨x7,σ7,H7,I7.unpinned,r7,q7⟩
end
theorem vM {xs:List V}{g:TG}{tb:TS}{D:nF}(Pv:Nat->St->Hp->Prop) (h0:Pv 0 σ H) (hl:∀i σ H,i<=xs.length->Pv i σ H->fM K H a xs)
  (hs:∀i x σ H,xs[i]?=some x->Pv i σ H->g x σ H fun σ2 H2=>tb { D with nx:=Pv (i+1),ct:=Pv (i+1),bk:=D.nx } σ2 H2) (hd:∀σ H,Pv xs.length σ H->D.nx σ H):
  ∃W:Nat->Nat->St->Hp->Prop,(∃m,W 0 m σ H)/\∀i m σ H,W i m σ H ->
   ((Mz K a).stop i H/\D.nx σ H) ∨ ((Mz K a).go i H/\∃N:St->Hp->Prop,(∀σ' H',N σ' H'->∃m',m'<m/\W (i+1) m' σ' H')/\∀x H',(Mz K a).yld i H x H'->g x σ H' fun σ2 H2=>tb { D with nx:=N,ct:=N,bk:=D.nx } σ2 H2):=by
 refine⟨fun i m σ H=>m=xs.length - i/\i<=xs.length/\Pv i σ H,⟨xs.length,by simp,A7 _,h0⟩,?_⟩
 rintro i m σ H ⟨rfl,hi,p⟩
 have q:=hl i σ H hi p
 by_cases hlt:i<xs.length
 ·refine .inr ⟨⟨xs,xs[i],q,by simp[hlt]⟩,Pv (i+1),fun σ' H' p'=>⟨xs.length - (i+1),by lia,rfl,hlt,p'⟩,fun x H' y=>?_⟩
  obtain⟨e,y⟩:=y
  subst e
  exact hs i x σ _ (y xs q) p
 ·have e:i=xs.length:=by lia
  subst e
  exact .inl ⟨⟨xs,q,i9 _⟩,hd σ H p⟩
theorem mv {lo:Int}{n:Nat}{g:TG}{tb:TS}{D:nF}(Pv:Nat->St->Hp->Prop) (h0:Pv 0 σ H)
  (hs:∀i σ H,i<n->Pv i σ H->g (.int (lo+i)) σ H fun σ2 H2=>tb { D with nx:=Pv (i+1),ct:=Pv (i+1),bk:=D.nx } σ2 H2) (hd:∀σ H,Pv n σ H->D.nx σ H):
  ∃W:Nat->Nat->St->Hp->Prop,(∃m,W 0 m σ H)/\∀i m σ H,W i m σ H ->
   ((JG lo n).stop i H/\D.nx σ H) ∨ ((JG lo n).go i H/\∃N:St->Hp->Prop,(∀σ' H',N σ' H'->∃m',m'<m/\W (i+1) m' σ' H')/\∀x H',(JG lo n).yld i H x H'->g x σ H' fun σ2 H2=>tb { D with nx:=N,ct:=N,bk:=D.nx } σ2 H2):=by
 refine⟨fun i m σ H=>m=n - i/\i<=n/\Pv i σ H,⟨n,by simp,A7 _,h0⟩,?_⟩
 rintro i m σ H ⟨rfl,hi,p⟩
 by_cases hlt:i<n
 ·refine .inr ⟨hlt,Pv (i+1),fun σ' H' p'=>⟨n - (i+1),by lia,rfl,hlt,p'⟩,fun x H' y=>?_⟩
  obtain⟨e,y⟩:=y
  subst e y
  exact hs i σ _ hlt p
 ·have e:i=n:=by lia
  subst e
  exact .inl ⟨i9 _,hd σ H p⟩
abbrev R2:=V->V->Hp->VK->Prop
noncomputable def jE (X:Cx) (f:b9->b9->Sem b9) (r:R2):Prop :=
 ∀(pins:List (Addr × Obj)) (s:f6) (σ:St) (H:Hp) (x y:V) (v u:b9) (Q:VK),C0 X pins σ H s->G9 x v->G9 y u->r x y H Q ->
  j6 (r0 X.prog X.w) X.A (f v u) (EP X pins σ Q) X.xe s
noncomputable def UnR (X:Cx) (f:b9->Sem b9) (r:V->Hp->VK->Prop):Prop :=
 ∀(pins:List (Addr × Obj)) (s:f6) (σ:St) (H:Hp) (x:V) (v:b9) (Q:VK),C0 X pins σ H s->G9 x v->r x H Q ->
  j6 (r0 X.prog X.w) X.A (f v) (EP X pins σ Q) X.xe s
noncomputable def bB (X:Cx) (f:b9) (r:List V->Hp->VK->Prop):Prop :=
 ∀(pins:List (Addr × Obj)) (s:f6) (σ:St) (H:Hp) (xs:List V) (us:List b9) (Q:VK),C0 X pins σ H s->G6 xs us->r xs H Q ->
  j6 (r0 X.prog X.w) X.A (call f us) (EP X pins σ Q) X.xe s
def Pq (r:R2) (ta tb:TE):TE:=fun σ H Q=>ta σ H fun x H1=>tb σ H1 fun y H2=>r x y H2 Q
def tUn (r:V->Hp->VK->Prop) (ta:TE):TE:=fun σ H Q=>ta σ H fun x H1=>r x H1 Q
def rI (C:Int->Int->Prop) (g:Int->Int->V):R2:=fun x y H Q=>∃i j,x=.int i/\y=.int j/\C i j/\Q (g i j) H
def Jp (g:Int->Int->V):R2:=fun x y H Q=>∃i j,x=.int i/\y=.int j/\Q (g i j) H
def rU (g:Int->V):V->Hp->VK->Prop:=fun x H Q=>∃i,x=.int i/\Q (g i) H
section
variable {X:Cx}{a b c:Expr}{ta tb tc:TE}{pos:Pos}
variable {f:b9->b9->Sem b9}
theorem Mr (ha:PE X a ta) (hb:PE X b tb) {pins:List (Addr × Obj)}{s:f6}{σ:St}{H:Hp}{R:V->V->Hp->Prop} (I:C0 X pins σ H s)
  (h:ta σ H fun x H1=>tb σ H1 fun y H2=>R x y H2) {Q:b9->f6->Prop}
  (hf:∀v u s2 x y H2,C0 X pins σ H2 s2->G9 x v->G9 y u->R x y H2->j6 (r0 X.prog X.w) X.A (f v u) Q X.xe s2):
  j6 (r0 X.prog X.w) X.A (eval a X.env) (fun v s₁=>j6 (r0 X.prog X.w) X.A (eval b X.env) (fun u s₂=>j6 (r0 X.prog X.w) X.A (f v u) Q X.xe s₂) X.xe s₁) X.xe s:=by
 refine P1 (ha pins s σ H _ I h) fun v s1 ⟨x,H1,I1,r1,q1⟩=>?_
 refine P1 (hb pins s1 σ H1 _ I1 q1) fun u s2 ⟨y,H2,I2,r2,q2⟩=>?_
 exact hf v u s2 x y H2 I2 r1 r2 q2
theorem J6 {op:Operator}{r:R2} (ho:jE X (dH op) r) (ha:PE X a ta) (hb:PE X b tb):PE X (.BinOp a op b pos) (Pq r ta tb):=by
 intro pins s σ H Q I h
 exact wpAny_BinOp (Mr ha hb I h fun v u s2 x y H2 I2 rx ry q=>ho pins s2 σ H2 x y v u Q I2 rx ry q)
theorem Oh {op:UnaryOp}{r:V->Hp->VK->Prop} (ho:UnR X (unaryOp op) r) (ha:PE X a ta):PE X (.UnaryOp op a pos) (tUn r ta):=by
 intro pins s σ H Q I h
 exact UnaryOp_ (P1 (ha pins s σ H _ I h) fun v s1 ⟨x,H1,I1,r1,q1⟩=>ho pins s1 σ H1 x v Q I1 r1 q1)
theorem MQ {C:Int->Int->Prop}{g:Int->Int->Int}
  (rule:∀(i j:Int) (t u:Tok) (s:f6) (Q:b9->f6->Prop) (E:b9->f6->Prop),C i j->Q (.int (g i j) s.toks) { s with toks:=s.toks+1 }->j6 (r0 X.prog X.w) X.A (f (.int i t) (.int j u)) Q E s):
  jE X f (rI C fun i j=>.int (g i j)):=by
 intro pins s σ H x y v u Q I rx ry h
 obtain⟨i,j,rfl,rfl,hc,q⟩:=h
 obtain⟨t,rfl⟩:=rx
 obtain⟨t',rfl⟩:=ry
 exact rule i j t t' s _ _ hc ⟨.int (g i j),H,I.tok _,⟨_,rfl⟩,q⟩
theorem Ol {g:Int->Int->Int}
  (rule:∀(i j:Int) (t u:Tok) (s:f6) (Q:b9->f6->Prop) (E:b9->f6->Prop),Q (.int (g i j) s.toks) { s with toks:=s.toks+1 }->j6 (r0 X.prog X.w) X.A (f (.int i t) (.int j u)) Q E s):
  jE X f (Jp fun i j=>.int (g i j)):=by
 intro pins s σ H x y v u Q I rx ry h
 obtain⟨i,j,rfl,rfl,q⟩:=h
 obtain⟨t,rfl⟩:=rx
 obtain⟨t',rfl⟩:=ry
 exact rule i j t t' s _ _ ⟨.int (g i j),H,I.tok _,⟨_,rfl⟩,q⟩
theorem HH {g:Int->Int->Bool}
  (rule:∀(i j:Int) (t u:Tok) (s:f6) (Q:b9->f6->Prop) (E:b9->f6->Prop),Q (.bool (g i j)) s->j6 (r0 X.prog X.w) X.A (f (.int i t) (.int j u)) Q E s):
  jE X f (Jp fun i j=>.bl (g i j)):=by
 intro pins s σ H x y v u Q I rx ry h
 obtain⟨i,j,rfl,rfl,q⟩:=h
 obtain⟨t,rfl⟩:=rx
 obtain⟨t',rfl⟩:=ry
 exact rule i j t t' s _ _ ⟨.bl (g i j),H,I,rfl,q⟩
def CDiv (i j:Int):Prop:=0<j/\j<1073741824
def OY (i j:Int):Prop:=0<=j/\j<=1000000/\i.natAbs<2 ^ 64
def MB (i j:Int):Prop:=(-(2 ^ 64)<i/\i<2 ^ 64) ∨ (-(2 ^ 64)<j/\j<2 ^ 64)
theorem MB.ok {i j:Int} (h:MB i j):IntMulOk i j:=by
 rcases h with ⟨h1,h2⟩|⟨h1,h2⟩
 ·exact .of_left (intBits_le_64 h1 h2)
 ·exact .of_right (intBits_le_64 h1 h2)
theorem cE:jE X (dH .Add) (Jp fun i j=>.int (i+j)):=Ol fun _ _ _ _ _ _ _ q=>add_int q
theorem xX:jE X (dH .Sub) (Jp fun i j=>.int (i - j)):=Ol fun _ _ _ _ _ _ _ q=>sub_int q
theorem ma:jE X (dH .Mult) (rI MB fun i j=>.int (i*j)):=MQ fun _ _ _ _ _ _ _ hc q=>mul_int q hc.ok
theorem zH:jE X (dH .FloorDiv) (rI CDiv fun i j=>.int (i / j)):=MQ fun i j _ _ _ _ _ hc q=>by
 have h1:(0:Int)<j:=hc.1
 have h2:j<1073741824:=hc.2
 exact floordiv_int (by lia) (by rw[uW i (by lia)];exact q) (.inl (PyProof.noPylong_small (by lia)))
theorem jX:jE X (dH .Mod) (rI (fun _ j=>0<j) fun i j=>.int (i % j)):=MQ fun i j _ _ _ _ _ hc q=>by
 have h1:(0:Int)<j:=hc
 exact mod_int' (by lia) (by rw[Int.fmod_eq_emod_of_nonneg i (by lia)];exact q)
theorem Et:jE X (dH .Pow) (rI OY fun i j=>.int (i ^ j.toNat)):=MQ fun _ _ _ _ _ _ _ hc q=>pow_int_small hc.1 hc.2.1 hc.2.2 q
theorem unI {f:b9->Sem b9}{g:Int->Int}
  (rule:∀(i:Int) (t:Tok) (s:f6) (Q:b9->f6->Prop) (E:b9->f6->Prop),Q (.int (g i) s.toks) { s with toks:=s.toks+1 }->j6 (r0 X.prog X.w) X.A (f (.int i t)) Q E s):
  UnR X f (rU fun i=>.int (g i)):=by
 intro pins s σ H x v Q I rx h
 obtain⟨i,rfl,q⟩:=h
 obtain⟨t,rfl⟩:=rx
 exact rule i t s _ _ ⟨.int (g i),H,I.tok _,⟨_,rfl⟩,q⟩
theorem JY:UnR X (unaryOp .USub) (rU fun i=>.int (-i)):=unI fun _ _ _ _ _ q=>neg_int q
end
noncomputable def NR:V->V->Bool
 | .non,.non=>true | .non,.int _=>true | .int _,.non=>true | .non,.bl _=>true | .bl _,.non=>true | .non,.str _=>true | .str _,.non=>true
 | .int _,.int _=>true | .bl _,.bl _=>true | .str _,.str _=>true | .byt _,.byt _=>true
 | .int _,.str _=>true | .str _,.int _=>true | .bl _,.str _=>true | .str _,.bl _=>true
 | _,_=>false
def rEq:R2:=fun x y H Q=>NR x y=true/\Q (.bl (decide (x=y))) H
def rNe:R2:=fun x y H Q=>NR x y=true/\Q (.bl (!decide (x=y))) H
theorem zW {i j:Int}:decide (V.int i=V.int j)=(i == j):=by
 rw[eU]
 simp
theorem FG {i j:Bool}:decide (V.bl i=V.bl j)=(i == j):=by
 rw[eU]
 simp
theorem zU {i j:Str}:decide (V.str i=V.str j)=(i == j):=by
 rw[eU]
 simp
theorem zX {i j:Array UInt8}:decide (V.byt i=V.byt j)=(i.toList == j.toList):=by
 rw[eU]
 cases i
 cases j
 simp
section
variable {X:Cx}{a b c:Expr}{ta tb tc:TE}{pos:Pos}
theorem N4 {pins:List (Addr × Obj)}{σ:St}{H:Hp}{s:f6}{Q:VK}{k k':Bool} (I:C0 X pins σ H s) (q:Q (.bl k) H) (e:k=k'):EP X pins σ Q (.bool k') s:=by
 subst e
 exact⟨.bl k,H,I,rfl,q⟩
theorem Z0:jE X (M4 .Eq) rEq:=by
 intro pins s σ H x y v u Q I rx ry h
 obtain⟨hs,q⟩:=h
 cases x with
 | non =>
  cases rx
  cases y with
  | non=>cases ry;exact PySem.EqNone.eq_none_none (N4 I q (by simp))
  | bl j=>cases ry;exact PySem.EqNone.eq_none_bool (N4 I q (by simp))
  | int j=>obtain⟨t',rfl⟩:=ry;exact PySem.EqNone.eq_none_int (N4 I q (by simp))
  | str j=>obtain⟨t',rfl⟩:=ry;exact PySem.EqNone.eq_none_str (N4 I q (by simp))
  | _=>exact absurd (show false=true from hs) u7
 | bl i =>
  cases rx
  cases y with
  | non=>cases ry;exact PySem.EqNone.eq_bool_none (N4 I q (by simp))
  | bl j=>cases ry;exact eq_bool (N4 I q FG)
  | str j=>obtain⟨t',rfl⟩:=ry;exact PySem.EqMixed.eq_bool_str (N4 I q (by simp))
  | _=>exact absurd (show false=true from hs) u7
 | int i =>
  obtain⟨t,rfl⟩:=rx
  cases y with
  | non=>cases ry;exact PySem.EqNone.eq_int_none (N4 I q (by simp))
  | int j=>obtain⟨t',rfl⟩:=ry;exact eq_int (N4 I q zW)
  | str j=>obtain⟨t',rfl⟩:=ry;exact PySem.EqMixed.eq_int_str (N4 I q (by simp))
  | _=>exact absurd (show false=true from hs) u7
 | str i =>
  obtain⟨t,rfl⟩:=rx
  cases y with
  | non=>cases ry;exact PySem.EqNone.eq_str_none (N4 I q (by simp))
  | bl j=>cases ry;exact PySem.EqMixed.eq_str_bool (N4 I q (by simp))
  | int j=>obtain⟨t',rfl⟩:=ry;exact PySem.EqMixed.eq_str_int (N4 I q (by simp))
  | str j=>obtain⟨t',rfl⟩:=ry;exact eq_str (N4 I q zU)
  | _=>exact absurd (show false=true from hs) u7
 | byt i =>
  obtain⟨t,rfl⟩:=rx
  cases y with
  | byt j=>obtain⟨t',rfl⟩:=ry;exact W.eq_bytes (N4 I q zX)
  | _=>exact absurd (show false=true from hs) u7
 | _=>cases y <;> exact absurd (show false=true from hs) u7
theorem iW:jE X (M4 .NotEq) rNe:=by
 intro pins s σ H x y v u Q I rx ry h
 obtain⟨hs,q⟩:=h
 cases x with
 | non =>
  cases rx
  cases y with
  | non=>cases ry;exact PySem.EqNone.ne_none_none (N4 I q (by simp))
  | bl j=>cases ry;exact PySem.EqNone.ne_none_bool (N4 I q (by simp))
  | int j=>obtain⟨t',rfl⟩:=ry;exact PySem.EqNone.ne_none_int (N4 I q (by simp))
  | str j=>obtain⟨t',rfl⟩:=ry;exact PySem.EqNone.ne_none_str (N4 I q (by simp))
  | _=>exact absurd (show false=true from hs) u7
 | bl i =>
  cases rx
  cases y with
  | non=>cases ry;exact PySem.EqNone.ne_bool_none (N4 I q (by simp))
  | bl j=>cases ry;exact ne_bool (N4 I q (congrArg not FG))
  | str j=>obtain⟨t',rfl⟩:=ry;exact PySem.EqMixed.ne_bool_str (N4 I q (by simp))
  | _=>exact absurd (show false=true from hs) u7
 | int i =>
  obtain⟨t,rfl⟩:=rx
  cases y with
  | non=>cases ry;exact PySem.EqNone.ne_int_none (N4 I q (by simp))
  | int j=>obtain⟨t',rfl⟩:=ry;exact ne_int (N4 I q (congrArg not zW))
  | str j=>obtain⟨t',rfl⟩:=ry;exact PySem.EqMixed.ne_int_str (N4 I q (by simp))
  | _=>exact absurd (show false=true from hs) u7
 | str i =>
  obtain⟨t,rfl⟩:=rx
  cases y with
  | non=>cases ry;exact PySem.EqNone.ne_str_none (N4 I q (by simp))
  | bl j=>cases ry;exact PySem.EqMixed.ne_str_bool (N4 I q (by simp))
  | int j=>obtain⟨t',rfl⟩:=ry;exact PySem.EqMixed.ne_str_int (N4 I q (by simp))
  | str j=>obtain⟨t',rfl⟩:=ry;exact ne_str (N4 I q (congrArg not zU))
  | _=>exact absurd (show false=true from hs) u7
 | byt i =>
  obtain⟨t,rfl⟩:=rx
  cases y with
  | byt j=>obtain⟨t',rfl⟩:=ry;exact W.ne_bytes (N4 I q (congrArg not zX))
  | _=>exact absurd (show false=true from hs) u7
 | _=>cases y <;> exact absurd (show false=true from hs) u7
theorem Eu:jE X (M4 .Lt) (Jp fun i j=>.bl (decide (i<j))):=HH fun _ _ _ _ _ _ _ q=>lt_int q
theorem rA:jE X (M4 .LtE) (Jp fun i j=>.bl (decide (i<=j))):=HH fun _ _ _ _ _ _ _ q=>le_int q
theorem zG:jE X (M4 .Gt) (Jp fun i j=>.bl (decide (j<i))):=HH fun _ _ _ _ _ _ _ q=>gt_int q
theorem Oj:jE X (M4 .GtE) (Jp fun i j=>.bl (decide (j<=i))):=HH fun _ _ _ _ _ _ _ q=>ge_int q
variable {op:Gm}
theorem G0 (b:Expr) (h:op≠.In:=by decide) (h2:op≠.NotIn:=by decide):cy op b=false:=by
 have e1:(op == CmpOp.In)=false:=by cases op <;> first|rfl|exact absurd rfl h
 have e2:(op == Pn)=false:=by cases op <;> first|rfl|exact absurd rfl h2
 cases b <;> simp[cy,e1,e2]
variable {r:R2}
theorem fj (ho:jE X (M4 op) r) (ha:PE X a ta) (hb:PE X b tb) (hm:cy op b=false):PE X (.Compare a [op] [b] pos) (Pq r ta tb):=by
 intro pins s σ H Q I h
 exact wpAny_Compare1 (Mr ha hb I h fun v u s2 x y H2 I2 rx ry q=>ho pins s2 σ H2 x y v u Q I2 rx ry q) hm
def Jg (t:TE):TT:=fun σ H Q=>t σ H fun x H'=>∃k,x=.bl k/\Q k H'
theorem E4 {op:Gm}{r:R2} (ho:jE X (M4 op) r) (ha:PE X a ta) (hb:PE X b tb) (hm:cy op b=false):PT X (.Compare a [op] [b] pos) (Jg (Pq r ta tb)):=by
 intro pins s σ H Q I h
 refine IX (P1 (ha pins s σ H _ I h) fun v s1 ⟨x,H1,I1,r1,q1⟩=>P1 (hb pins s1 σ H1 _ I1 q1) fun u s2 ⟨y,H2,I2,r2,q2⟩ =>
  P1 (ho pins s2 σ H2 x y v u _ I2 r1 r2 q2) fun c s3 ⟨z,H3,I3,r3,k,e,q3⟩=>?_) hm
 subst e
 cases r3
 exact R0 ⟨H3,I3,q3⟩
def CL (r r':R2) (ta tb tc:TE):TE:=fun σ H Q=>ta σ H fun x H1=>tb σ H1 fun y H2=>r x y H2 fun z H3=>∃k,z=.bl k /\
 (if k=true then tc σ H3 fun w' H4=>r' y w' H4 Q else Q (.bl false) H3)
theorem pb {op':Gm}{r':R2} (ho:jE X (M4 op) r) (ho':jE X (M4 op') r') (ha:PE X a ta) (hb:PE X b tb) (hc:PE X c tc)
  (hm:lastMarks [op,op'] [b,c]=false:=by with_unfolding_all rfl):PE X (.Compare a [op,op'] [b,c] pos) (CL r r' ta tb tc):=by
 intro pins s σ H Q I h
 refine Compare_chain (P1 (ha pins s σ H _ I h) fun v s1 ⟨x,H1,I1,r1,q1⟩=>chain_link (P1 (hb pins s1 σ H1 _ I1 q1) fun u s2 ⟨y,H2,I2,r2,q2⟩ =>
  P1 (ho pins s2 σ H2 x y v u _ I2 r1 r2 q2) fun d s3 ⟨z,H3,I3,r3,k,e,q3⟩=>?_)) hm
 subst e
 cases r3
 refine R0 ?_
 cases k with
 | false=>exact ite_ff ⟨.bl false,H3,I3,rfl,q3⟩
 | true=>exact ite_tt (chain_last (P1 (hc pins s3 σ H3 _ I3 q3) fun w' s4 ⟨z',H4,I4,r4,q4⟩=>ho' pins s4 σ H4 y z' u w' Q I4 r2 r4 q4))
theorem DV {op':Gm}{r':R2} (ho:jE X (M4 op) r) (ho':jE X (M4 op') r') (ha:PE X a ta) (hb:PE X b tb) (hc:PE X c tc)
  (hm:lastMarks [op,op'] [b,c]=false:=by with_unfolding_all rfl):PT X (.Compare a [op,op'] [b,c] pos) (Jg (CL r r' ta tb tc)):=by
 intro pins s σ H Q I h
 refine isTrue_chain (P1 (ha pins s σ H _ I h) fun v s1 ⟨x,H1,I1,r1,q1⟩=>test_link (P1 (hb pins s1 σ H1 _ I1 q1) fun u s2 ⟨y,H2,I2,r2,q2⟩ =>
  P1 (ho pins s2 σ H2 x y v u _ I2 r1 r2 q2) fun d s3 ⟨z,H3,I3,r3,k,e,q3⟩=>?_)) hm
 subst e
 cases r3
 refine R0 ?_
 cases k with
 | false =>
  obtain⟨k',e',q'⟩:=q3
  cases e'
  exact ite_ff ⟨H3,I3,q'⟩
 | true =>
  refine ite_tt (test_last (P1 (hc pins s3 σ H3 _ I3 q3) fun w' s4 ⟨z',H4,I4,r4,q4⟩=>P1 (ho' pins s4 σ H4 y z' u w' _ I4 r2 r4 q4) fun d' s5 ⟨z2,H5,I5,r5,k2,e2,q5⟩=>?_))
  subst e2
  cases r5
  exact R0 ⟨H5,I5,q5⟩
theorem mh:(i7:Nat)<2 ^ 63:=by rw[X0];decide
theorem P6:jE X (dH .Add) (fun x y H Q=>∃i j,x=.str i/\y=.str j/\i.length+j.length<=i7/\Q (.str (i++j)) H):=by
 intro pins s σ H x y v u Q I rx ry h
 obtain⟨i,j,rfl,rfl,hz,q⟩:=h
 obtain⟨t,rfl⟩:=rx
 obtain⟨t',rfl⟩:=ry
 exact add_str (fun t' tk=>⟨.str (i++j),H,I.tok _,⟨_,rfl⟩,q⟩) hz
theorem iG {x:V}{us:List b9} (r:G6 [x] us):∃u,us=[u]/\G9 x u:=by
 cases r with
 | cons r1 r2=>cases r2;exact⟨_,rfl,r1⟩
theorem Je {x y:V}{us:List b9} (r:G6 [x,y] us):∃u w',us=[u,w']/\G9 x u/\G9 y w':=by
 cases r with
 | cons r1 r2 =>
  cases r2 with
  | cons r3 r4=>cases r4;exact⟨_,_,rfl,r1,r3⟩
theorem FM:bB X (.builtin "abs") (fun xs H Q=>∃i,xs=[.int i]/\Q (.int (if i<0 then -i else i)) H):=by
 intro pins s σ H xs us Q I r h
 obtain⟨i,rfl,q⟩:=h
 obtain⟨u,rfl,t,rfl⟩:=iG r
 exact call_abs_int fun u tk=>⟨.int (if i<0 then -i else i),H,I.tok _,⟨_,rfl⟩,q⟩
theorem BE (hc:X.calm=true):bB X (.builtin "max") (fun xs H Q=>∃i j,xs=[.int i,.int j]/\Q (.int (if j > i then j else i)) H):=by
 intro pins s σ H xs us Q I r h
 obtain⟨i,j,rfl,q⟩:=h
 obtain⟨u,w',rfl,⟨t,rfl⟩,⟨t',rfl⟩⟩:=Je r
 refine max_two_ints (I.ok.hd hc) fun h' tk k=>⟨_,H,I.kept k,?_,q⟩
 by_cases hj:j > i
 ·rw[if_pos hj,if_pos hj];exact⟨_,rfl⟩
 ·rw[if_neg hj,if_neg hj];exact⟨_,rfl⟩
theorem BD (hc:X.calm=true):bB X (.builtin "min") (fun xs H Q=>∃i j,xs=[.int i,.int j]/\Q (.int (if j<i then j else i)) H):=by
 intro pins s σ H xs us Q I r h
 obtain⟨i,j,rfl,q⟩:=h
 obtain⟨u,w',rfl,⟨t,rfl⟩,⟨t',rfl⟩⟩:=Je r
 refine min_two_ints (I.ok.hd hc) fun h' tk k=>⟨_,H,I.kept k,?_,q⟩
 by_cases hj:j<i
 ·rw[if_pos hj,if_pos hj];exact⟨_,rfl⟩
 ·rw[if_neg hj,if_neg hj];exact⟨_,rfl⟩
theorem gr:bB X (.type "int") (fun xs H Q=>(∃i,xs=[.int i]/\Q (.int i) H) ∨ ∃k,xs=[.bl k]/\Q (.int (if k then 1 else 0)) H):=by
 intro pins s σ H xs us Q I r h
 rcases h with ⟨i,rfl,q⟩|⟨k,rfl,q⟩
 ·obtain⟨u,rfl,t,rfl⟩:=iG r
  exact call_int_int ⟨.int i,H,I,⟨_,rfl⟩,q⟩
 ·obtain⟨u,rfl,r1⟩:=iG r
  cases r1
  exact call_int_bool ⟨.int (if k then 1 else 0),H,I.tok _,⟨_,rfl⟩,q⟩
theorem N5:bB X (.type "str") (fun xs H Q=>∃i,xs=[.int i]/\i.natAbs.log2<1920/\Q (.str (toString i)) H):=by
 intro pins s σ H xs us Q I r h
 obtain⟨i,rfl,hz,q⟩:=h
 obtain⟨u,rfl,t,rfl⟩:=iG r
 exact PySem.P.str_of_int hz ⟨.str _,H,I.tok _,⟨_,rfl⟩,q⟩
end
structure yO (h:Heap) (x dx C:Addr) (mA:Str->Option b9):Prop where
 obj:h.get? x=some (gu C dx)
 ns:h.Ns1 dx mA
 ne:dx≠x
theorem Bg {dx:Addr}{mA:Str->Option b9} (n:h.Ns1 dx mA):∃od,h.get? dx=some od/\∀name,GI name od=some (mA name):=by
 obtain⟨o,es,ep,ho,hd,hk,_,hm⟩:=n
 refine⟨o,ho,fun name=>?_⟩
 have e:=hm name
 unfold nsFind qw at e
 rw[<- Cz] at e
 unfold GI
 rw[hd]
 dsimp only
 split
 ·rename_i y q
  rw[q] at e
  exact congrArg some e
 ·rename_i q
  rw[q] at e
  have a:es.toList.any (·.refKey)=false:=by
   rw[List.any_eq_false]
   intro y hy
   obtain⟨z,t,hkey⟩:=hk y (Array.mem_toList_iff.mp hy)
   simp[DictEntry.refKey,hkey]
  have a':¬ es.toList.any (·.refKey)=true:=by rw[a];exact u7
  rw[if_neg a']
  exact congrArg some e
variable {C:Addr}
theorem yO.look {x dx:Addr}{mA:Str->Option b9} (I:yO h x dx C mA):∃od,PL h x (gu C dx) C (some od)/\∀name,GI name od=some (mA name):=
 let ⟨od,ho,hl⟩:=Bg I.ns
 ⟨od,⟨I.obj,rfl,rfl,ho⟩,hl⟩
section
variable {prog:i8}{w:t9}{A:y7}{E:b9->f6->Prop}{s:f6}{K:j7}{x dx C f:Addr}{mA:Str->Option b9}{name:Str}{v:b9}
theorem Im {expr:Bool}{Q:b9->f6->Prop} (X:K.In s.heap) (I:yO s.heap x dx C mA) (hg:wQ K C name=true) (hh:GJ K C=true)
  (ha:N0 K (.ref C) name=some none) (hv:mA name=some v) (hv':W.handedIn v=true) (h:Q v { s with toks:=s.toks+1 }):
  j6 (r0 prog w) A (getAttr (.ref x) name expr) Q E s:=by
 obtain⟨od,J,hl⟩:=I.look
 exact W.get_value X J (Au hg).1 (W.findObj_own hh ha rfl (by rw[hl,hv])) hv' h
theorem Fp {pl:Sem Bool}{Q:b9 × List b9->f6->Prop} (X:K.In s.heap) (I:yO s.heap x dx C mA) (hg:wQ K C name=true)
  (hf:N0 K (.ref C) name=some (some (.ref f))) (ht:JN K (.ref f)=true) (hv:mA name=none) (h:Q (.ref f,[.ref x]) s):
  j6 (r0 prog w) A (uQ (.ref x) name pl) Q E s:=by
 obtain⟨od,J,hl⟩:=I.look
 exact W.method_fn X J (Au hg).1 (Au hg).2 hf (beq_iff_eq.mp ht) (by show (GI name od).map (·.isSome)=some false;rw[hl,hv];rfl) h
theorem GR {ns:List Str}{Q:Unit->f6->Prop} (X:K.In s.heap) (I:yO s.heap x dx C mA)
  (hs:N0 K (.ref C) "__setattr__"=some (some (.builtin "object.__setattr__"))) (hp:W.plainOver K C=true) (ht:Nh K C name=some none) (hh:GJ K C=true)
  (hw:wV mA ns) (hsz:ns.length<=i7)
  (h:∀h',yO h' x dx C (fun y=>if y=name then some v else mA y)->E7 dx s.heap h'->Q () { s with heap:=h',toks:=s.toks+2 }):
  j6 (r0 prog w) A (setAttr (.ref x) name v) Q E s:=by
 obtain⟨od,J,hl⟩:=I.look
 refine W.set_plain X J hs (W.osa_open (s:={ s with toks:=s.toks+1 }) (r:=none) X J hp ht fun b=>?_)
 obtain⟨cd,hc,hd'⟩:=W.any_some hh
 have hx:s.heap.get? x=some ⟨.ref C,some dx,.plain,#[]⟩:=I.obj
 refine b7 (g0 (b7 (b7 (Ak hx (b7 (W.Looks.here (s:={ s with toks:=s.toks+1 }) (W.looks_clsIn X hc) ?_))))))
 rw[hd']
 refine g0 (a:=some dx) (b7 (g0 (b7 ?_)))
 refine wpAny_nsSet1 (s:={ s with toks:=s.toks+1 }) I.ns fun h' hn2 hs2=>?_
 obtain⟨oD,esD,epD,hoD,hdD,hcD⟩:=hn2.count (PySem.Within.cons name v hw)
 refine b7 (wpAny_lookBehind hoD (by rw[hdD];exact pastItsLine_dict (j9 hcD (by rw[m8];lia))) ?_)
 exact g0 (h _ ⟨(hs2.2 _ (E8 I.ne)).trans I.obj,hn2,I.ne⟩ hs2)
theorem EO {R:eW->f6->Prop}{vs:List b9}{kw:List (Str × b9)} (X:K.In s.heap) (hm:BS K C=true)
  (hi:N0 K (.ref C) "__init__"=some (some (.ref f))) (hf:W.typeIn K (.ref f)=some (.type "function"))
  (h:U8 (r0 prog w) (A.under (.builtin "type.__call__" ⟨.ref C::vs,kw⟩)) (.call (.ref f) ⟨.ref (s.heap.objs.size+1)::vs,kw⟩) (W.InitBack (s.heap.objs.size+1) R)
   { s with heap:=(s.heap.push bo).push (gu C s.heap.objs.size) }):
  U8 (r0 prog w) A (.call (.ref C) ⟨vs,kw⟩) R s:=by
 obtain⟨hh,g,d,t,os⟩:=s
 exact W.make_core (W.makes_of X hm) (wR X hi) (fun self=>W.bind_fn X self hf) (.inl rfl) h
end
noncomputable def jy (f:Str) (v:V):List (Str × V)->List (Str × V)
 | []=>[(f,v)]
 | (g,x)::r=>if g=f then (g,v)::r else (g,x)::jy f v r
theorem mS (f g:Str) (v:V):∀fs:List (Str × V),(jy f v fs).lookup g=if g=f then some v else fs.lookup g
 | []=>by
  show bZ g [(f,v)]=_
  by_cases h:g=f
  ·have hb:(g == f)=true:=beq_iff_eq.mpr h
   simp only[bZ,hb,if_pos h]
  ·have hb:(g == f)=false:=beq_eq_false_iff_ne.mpr h
   simp only[bZ,hb,if_neg h]
 | (k,x)::r=>by
  have ih:=mS f g v r
  rw[show jy f v ((k,x)::r)=(if k=f then (k,v)::r else (k,x)::jy f v r) from rfl]
  by_cases hk:k=f
  ·rw[if_pos hk]
   by_cases h:g=k
   ·have hb:(g == k)=true:=beq_iff_eq.mpr h
    simp only[bZ,hb,if_pos (h.trans hk)]
   ·have hb:(g == k)=false:=beq_eq_false_iff_ne.mpr h
    simp only[bZ,hb,if_neg (fun e:g=f=>h (e.trans hk.symm))]
  ·rw[if_neg hk]
   by_cases h:g=k
   ·have hb:(g == k)=true:=beq_iff_eq.mpr h
    simp only[bZ,hb,if_neg (fun e:g=f=>hk (h.symm.trans e))]
   ·have hb:(g == k)=false:=beq_eq_false_iff_ne.mpr h
    simp only[bZ,hb]
    exact ih
theorem mr (f:Str) (v:V):∀fs:List (Str × V),f∈(jy f v fs).map (·.1)/\∀g,g∈fs.map (·.1)->g∈(jy f v fs).map (·.1)
 | []=>⟨by simp[jy],fun g h=>by simp at h⟩
 | (k,x)::r=>by
  obtain⟨i1,i2⟩:=mr f v r
  rw[show jy f v ((k,x)::r)=(if k=f then (k,v)::r else (k,x)::jy f v r) from rfl]
  by_cases hk:k=f
  ·rw[if_pos hk]
   subst hk
   exact⟨by simp,fun g h=>by simpa using h⟩
  ·rw[if_neg hk]
   refine⟨?_,fun g h=>?_⟩
   ·rw[r9]
    exact i4 _ i1
   ·rw[r9] at h ⊢
    rcases List.mem_cons.mp h with e|e
    ·exact List.mem_cons.mpr (.inl e)
    ·exact i4 _ (i2 g e)
theorem mU (f:Str) (v:V):∀fs:List (Str × V),(jy f v fs).length<=fs.length+1
 | []=>by simp[jy]
 | (k,x)::r=>by
  have ih:=mU f v r
  rw[show jy f v ((k,x)::r)=(if k=f then (k,v)::r else (k,x)::jy f v r) from rfl]
  by_cases hk:k=f
  ·rw[if_pos hk,m8,m8];lia
  ·rw[if_neg hk,m8,m8];lia
theorem iw.some_of {v:V}{o:Option b9} (r:iw (some v) o):∃u,o=some u/\G9 v u:=by
 cases o with
 | none=>exact(show False from r).elim
 | some u=>exact⟨u,rfl,r⟩
theorem iw.none_of {o:Option b9} (r:iw none o):o=none:=by
 cases o with
 | none=>rfl
 | some u=>exact(show False from r).elim
theorem Bp {v:V}(r:G9 v u):W.handedIn u=true:=by
 cases v with
 | non=>cases (show u=A3 from r);rfl
 | bl b=>cases (show u=P3 b from r);rfl
 | int i=>obtain⟨t,e⟩:=(show ∃t,u=kz i t from r);cases e;rfl
 | str x=>obtain⟨t,e⟩:=(show ∃t,u=aV x t from r);cases e;rfl
 | byt b=>obtain⟨t,e⟩:=(show ∃t,u=Pk b t from r);cases e;rfl
 | flt b=>obtain⟨t,e⟩:=(show ∃t,u=Av b t from r);cases e;rfl
 | ref a=>cases (show u=n9 a from r);rfl
 | ty n=>cases (show u=fH n from r);rfl
section
variable {P:i8}{w:t9}{H H':Hp}{h h':Heap}{a C dx:Addr}{fs fs':List (Str × V)}
theorem nV (hok:bU P w H h) (e:H a=some (.ins C dx fs)):∃mA,yO h a dx C mA/\(∀f,iw (fs.lookup f) (mA f))/\wV mA (fs.map (·.1))/\fs.length<=1000/\H dx=some (.own a):=by
 obtain⟨d,z,ne,ob,mA,n,r,q⟩:=(show P2 P w H h a (.ins C dx fs) from hok a _ e)
 exact⟨mA,⟨ob,n,ne⟩,r,q,z,d⟩
end
structure Cd (K:j7) (C:Addr):Prop where
 pg:wQ K C V6=true
 hd:GJ K C=true
 po:W.plainOver K C=true
 sa:N0 K (.ref C) "__setattr__"=some (some (.builtin "object.__setattr__"))
theorem Cd.get (c:Cd K C) (f:Str):wQ K C f=true:=c.pg
def kr (K:j7) (C:Addr) (f:Str):Prop:=N0 K (.ref C) f=some none
theorem kr.taker {f:Str} (n:kr K C f):Nh K C f=some none:=by
 unfold Nh
 rw[show N0 K (.ref C) f=some none from n]
 rfl
structure Con (K:j7) (C:Addr) (f:Str) (v:V) (u:b9):Prop where
 at_:N0 K (.ref C) f=some (some u)
 rel:G9 v u
 get:lC K u "__get__"=some none
 cp:W.copiedNames.contains f=false
structure IT (K:j7) (C:Addr) (m:Str) (f:Addr):Prop where
 at_:N0 K (.ref C) m=some (some (.ref f))
 fn:JN K (.ref f)=true
 kp:Y6 K (.ref f)=true
section
variable {X:Cx}{pins:List (Addr × Obj)}{σ:St}{H:Hp}{s:f6}{a C dx:Addr}{fs:List (Str × V)}{f:Str}{v:V}{A:y7}{E:b9->f6->Prop}
theorem yz {b:Bool}{Q:b9->f6->Prop} (I:C0 X pins σ H s) (e:H a=some (.ins C dx fs)) (c:Cd X.K C) (n:kr X.K C f) (l:fs.lookup f=some v)
  (h:∀u s',C0 X pins σ H s'->G9 v u->Q u s'):j6 (r0 X.prog X.w) A (getAttr (.ref a) f b) Q E s:=by
 obtain⟨mA,O,r,_,_,_⟩:=nV I.hok e
 obtain⟨u,hu,ru⟩:=iw.some_of (v:=v) (o:=mA f) (by rw[<- l];exact r f)
 exact Im I.kIn O (c.get f) c.hd n hu (Bp ru) (h u _ (I.tok _) ru)
theorem yy {m:Str}{g:Addr}{pl:Sem Bool}{Q:b9 × List b9->f6->Prop} (I:C0 X pins σ H s) (e:H a=some (.ins C dx fs)) (c:Cd X.K C) (k:IT X.K C m g) (l:fs.lookup m=none)
  (h:Q (.ref g,[.ref a]) s):j6 (r0 X.prog X.w) A (uQ (.ref a) m pl) Q E s:=by
 obtain⟨mA,O,r,_,_,_⟩:=nV I.hok e
 have hn:mA m=none:=iw.none_of (by rw[<- l];exact r m)
 exact Fp I.kIn O (c.get m) k.at_ k.fn hn h
theorem xD {y:V}{u:b9}{Q:Unit->f6->Prop} (I:C0 X pins σ H s) (e:H a=some (.ins C dx fs)) (c:Cd X.K C) (n:kr X.K C f) (hl:fs.length<1000) (ry:G9 y u)
  (h:∀s',C0 X pins σ (A6 H a (.ins C dx (jy f y fs))) s'->Q () s'):j6 (r0 X.prog X.w) A (setAttr (.ref a) f u) Q E s:=by
 obtain⟨mA,O,r,wi,_,ho⟩:=nV I.hok e
 have hz:(fs.map (·.1)).length<=i7:=by rw[d8,X0];lia
 refine GR I.kIn O c.sa c.po n.taker c.hd wi hz fun h' O' sb=>h _ ?_
 have hd:∃o,h'.get? dx=some o:=let ⟨o,_,_,e',_⟩:=O'.ns;⟨o,e'⟩
 refine I.write (x:=a) (e:=dx) (by rw[e];exact V7) (.inr ho) (fun b q hb z=>(sb.2 b hb).trans z) hd ?_
 refine⟨by rw[v9 O.ne];exact ho,?_,O.ne,O'.obj,_,O'.ns,fun g=>?_,fun g hg=>?_⟩
 ·have:=mU f y fs;lia
 ·show iw ((jy f y fs).lookup g) (if g=f then some u else mA g)
  rw[mS]
  by_cases q:g=f
  ·rw[if_pos q,if_pos q];exact ry
  ·rw[if_neg q,if_neg q];exact r g
 ·by_cases q:g=f
  ·rw[q];exact(mr f y fs).1
  ·refine (mr f y fs).2 g (wi g fun z=>hg ?_)
   show (if g=f then some u else mA g)=none
   rw[if_neg q];exact z
theorem C0.made (I:C0 X pins σ H s):C0 X pins σ (A6 (A6 H s.heap.objs.size (.own (s.heap.objs.size+1))) (s.heap.objs.size+1) (.ins C s.heap.objs.size []))
  { s with heap:=(s.heap.push bo).push (gu C s.heap.objs.size) }:=by
 have e1:(s.heap.push bo).get? s.heap.objs.size=some bo:=j8 s.heap rfl
 have e2:((s.heap.push bo).push (gu C s.heap.objs.size)).get? (s.heap.objs.size+1)=some (gu C s.heap.objs.size):=by
  have:=j8 (s.heap.push bo) (o:=gu C s.heap.objs.size) rfl
  rwa [C5] at this
 have e3:(s.heap.push bo).Ns s.heap.objs.size (fun _=>none):=⟨bo,#[],_,e1,rfl,(fun e he=>absurd he (by simp)),fun _=>rfl⟩
 have I1:=I.laid (a:=s.heap.objs.size) (o:=.own (s.heap.objs.size+1)) (h':=s.heap.push bo) (t':=s.toks) (fun b u q=>d9 _ q) (i9 _) ⟨_,e1⟩
 refine I1.laid (a:=s.heap.objs.size+1) (o:=.ins C s.heap.objs.size []) (t':=s.toks) (fun b u q=>d9 _ q) (Az (C5 _ _)) ?_
 have ne:s.heap.objs.size≠s.heap.objs.size+1:=m9 (J3 _)
 refine⟨by rw[v9 ne,j0],A7 _,ne,e2,fun _=>none,(Heap.Ns1.of_empty e3).at fun o q=>d9 _ q,fun _=>V7,fun y hy=>absurd rfl hy⟩
theorem IM {prog:i8}{w:t9}{env:Env}{e:Expr}{f:Str}{pos:Pos}{s:f6}{Q:b9->f6->Prop} (hb:cz e f env (eval e env)=eval e env)
  (h:j6 (r0 prog w) A (eval e env) (fun o s₁=>j6 (r0 prog w) A (getAttr o f true) Q E s₁) E s):j6 (r0 prog w) A (eval (.Attribute e f pos) env) Q E s :=
 Attribute_any_ h (by rw[arm_eval_Attribute,hb])
end
def tFld (K:j7) (ta:TE) (f:Str):TE:=fun σ H Q=>ta σ H fun x H1=>∃a C dx fs v,x=.ref a/\H1 a=some (.ins C dx fs)/\Cd K C/\kr K C f/\fs.lookup f=some v/\Q v H1
def sFld (K:j7) (ta tv:TE) (f:Str):TS:=fun D σ H=>tv σ H fun y H1=>ta σ H1 fun x H2=>∃a C dx fs,x=.ref a/\H2 a=some (.ins C dx fs)/\Cd K C/\kr K C f/\fs.length<1000 /\
 D.nx σ (A6 H2 a (.ins C dx (jy f y fs)))
section
variable {X:Cx}{o e value:Expr}{f:Str}{pos pos' tpos:Pos}{ta tv:TE}
theorem tP (he:PE X e ta) (hb:cz e f X.env (eval e X.env)=eval e X.env):PE X (.Attribute e f pos) (tFld X.K ta f):=by
 intro pins s σ H Q I h
 refine IM hb (P1 (he pins s σ H _ I h) fun u s1 ⟨x,H1,I1,rx,a,C,dx,fs,v,ex,ea,c,n,l,q⟩=>?_)
 subst ex
 obtain rfl:u=n9 a:=rx
 exact yz I1 ea c n l fun u' s2 I2 ru=>⟨v,H1,I2,ru,q⟩
theorem Ld (ha:PE X o ta) (hv:PE X value tv) (hs:jH value (some (.Attribute o f pos')) pos.line X.env=pure false):PS X (.Assign [.Attribute o f pos'] value pos) (sFld X.K ta tv f):=by
 intro pins s σ H D I h
 refine plainObj_wpAny_Assign_Attribute (P1 (hv pins s σ H _ I h) fun u s1 ⟨y,H1,I1,ry,q⟩=>P1 (ha pins s1 σ H1 _ I1 q) fun ov s2 ⟨x,H2,I2,rx,a,C,dx,fs,ex,ea,c,n,l,q2⟩=>?_) hs
 subst ex
 obtain rfl:ov=n9 a:=rx
 exact xD I2 ea c n l ry fun s3 I3=>⟨σ,_,I3,q2⟩
end
section
variable {X:Cx}{pins:List (Addr × Obj)}{σ:St}{H:Hp}{s:f6}{A:y7}{E:b9->f6->Prop}{Q:b9->f6->Prop}{c:b9}{b:Bool}
inductive my (K:j7) (H:Hp):V->b9->Prop where
 | non:my K H .non (.type "NoneType")
 | bl (x:Bool):my K H (.bl x) (.type "bool")
 | int (i:Int):my K H (.int i) (.type "int")
 | str (x:Str):my K H (.str x) (.type "str")
 | flt (x:UInt64):my K H (.flt x) (.type "float")
 | lst {a:Addr}{xs:List V} (e:H a=some (.lst xs)):my K H (.ref a) (.type "list")
 | frz {a:Addr}{o:Obj}{xs:List V} (e:H a=some (.frz o (.lst xs))):my K H (.ref a) (.type "list")
 | tup {a:Addr}{xs:List V} (e:H a=some (.tup xs)):my K H (.ref a) (.type "tuple")
 | dK {a:Addr}{kvs:List (O4 × V)} (e:H a=some (.dK kvs)):my K H (.ref a) (.type "dict")
 | dT {a:Addr}{kvs:List (List O4 × V)} (e:H a=some (.dT kvs)):my K H (.ref a) (.type "dict")
 | ins {a C dx:Addr}{fs:List (Str × V)} (e:H a=some (.ins C dx fs)) (cl:Cd K C) (ha:N0 K (.ref C) "__class__"=some (some (.builtin "object.__class__")))
   (hn:lC K (.builtin "object.__class__") "__get__"=some (some (.builtin "getset_descriptor.__get__"))) (htk:BR K (.builtin "object.__class__")=some true)
   (hm:MD K C (.type "object")=some true):my K H (.ref a) (.ref C)
theorem Bm {x:V}{u t:b9} (I:C0 X pins σ H s) (rx:G9 x u) (ty:my X.K H x t) (e:bV X.K t c=some b) (h:∀tk,Q (.bool b) { s with toks:=tk }):
  j6 (r0 X.prog X.w) A (call (.builtin "isinstance") [u,c]) Q E s:=by
 cases ty with
 | non=>cases (show u=A3 from rx);exact aJ W.kitx_none I.kIn V7 e (fun z=>nomatch z) h
 | bl y=>cases (show u=P3 y from rx);exact aJ W.kitx_bool I.kIn V7 e (fun z=>nomatch z) h
 | int i=>obtain⟨t,q⟩:=(show ∃t,u=kz i t from rx);cases q;exact aJ W.kitx_int I.kIn V7 e (fun z=>nomatch z) h
 | str y=>obtain⟨t,q⟩:=(show ∃t,u=aV y t from rx);cases q;exact aJ W.kitx_str I.kIn V7 e (fun z=>nomatch z) h
 | flt y=>obtain⟨t,q⟩:=(show ∃t,u=Av y t from rx);cases q;exact aJ W.kitx_float I.kIn V7 e (fun z=>nomatch z) h
 | @lst a xs ea =>
  cases (show u=n9 a from rx)
  obtain⟨_,_,n,_,h1⟩:=(show P2 X.prog X.w H s.heap a (.lst xs) from I.hok a _ ea)
  exact aJ W.kitx_list I.kIn ⟨_,h1,rfl⟩ e (fun z=>nomatch z) h
 | @frz a ob xs ea =>
  cases (show u=n9 a from rx)
  obtain⟨_,_,_,n,_,h1⟩:=(show P2 X.prog X.w H s.heap a (.frz ob (.lst xs)) from I.hok a _ ea)
  exact aJ W.kitx_list I.kIn ⟨_,h1,rfl⟩ e (fun z=>nomatch z) h
 | @tup a xs ea =>
  cases (show u=n9 a from rx)
  obtain⟨_,_,_,p⟩:=(show P2 X.prog X.w H s.heap a (.tup xs) from I.hok a _ ea)
  obtain⟨o,h1,h2,_⟩:=p
  exact aJ W.kitx_tuple I.kIn ⟨o,h1,h2⟩ e (fun z=>nomatch z) h
 | @dK a kvs ea =>
  cases (show u=n9 a from rx)
  obtain⟨_,_,vs,_,p⟩:=(show P2 X.prog X.w H s.heap a (.dK kvs) from I.hok a _ ea)
  obtain⟨o,es,ep,h1,h2,_⟩:=p
  exact aJ W.kitx_dict I.kIn ⟨o,h1,h2.1⟩ e (fun z=>nomatch z) h
 | @dT a kvs ea =>
  cases (show u=n9 a from rx)
  obtain⟨_,_,xs,_,o,es,ep,h1,h2,_⟩:=(show P2 X.prog X.w H s.heap a (.dT kvs) from I.hok a _ ea)
  exact aJ W.kitx_dict I.kIn ⟨o,h1,h2.1⟩ e (fun z=>nomatch z) h
 | @ins a C dx fs ea cl ha hn htk hm =>
  cases (show u=n9 a from rx)
  obtain⟨mA,O,_⟩:=nV I.hok ea
  obtain⟨od,J,_⟩:=O.look
  exact aJ (W.kitx_own (cl.get _) cl.hd ha hn htk hm) I.kIn J e (fun z=>nomatch z) h
end
structure Y9 (k:Nat) (A:y7):Prop where
 hd:A.handled=none
 dp:A.depth+3*k+5<recursionLimit
 un:A.units+16*k+200<dj
theorem Y9.mono {j k:Nat}(r:Y9 k A) (h:j<=k):Y9 j A:=⟨r.hd,by have:=r.dp;lia,by have:=r.un;lia⟩
theorem Y9.deeper {k:Nat}{A:y7} (r:Y9 (k+1) A) (env:Env):Y9 k (A.deeper env):=
 ⟨r.hd,by have:=r.dp;show A.depth+1+3*k+5<_;lia,by have:=r.un;show A.units+3+16*k+200<_;lia⟩
variable {us:List b9}
theorem yk {kw:List (Str × b9)}:(A.under (.builtin "type.__call__" ⟨.ref C::us,kw⟩)).depth=A.depth+1:=by
 first|rfl|simp[wL,Code.weight,Code.isCreation,Code.isGuard,Code.isCaller,PV,yW,guardIds]
theorem yj {kw:List (Str × b9)}:(A.under (.builtin "type.__call__" ⟨.ref C::us,kw⟩)).units=A.units+1:=by
 first|rfl|simp[wL,Code.cUnits,PV,yW]
theorem Y9.make {k:Nat}(r:Y9 (k+1) A) (C:Addr) (us:List b9) (kw:List (Str × b9)):Y9 k (A.under (.builtin "type.__call__" ⟨.ref C::us,kw⟩)):=
 ⟨r.hd,by have:=r.dp;rw[yk];lia,by have:=r.un;rw[yj];lia⟩
theorem Y9.depth {k:Nat}{A:y7} (r:Y9 k A):A.depth<recursionLimit:=by have:=r.dp;lia
theorem Y9.units {k:Nat}{A:y7} (r:Y9 k A):A.units+64<dj:=by have:=r.un;lia
def Kf:TA:=fun _ H Q=>Q [] H
def Ji (ta:TE) (tr:TA):TA:=fun σ H Q=>ta σ H fun x H1=>tr σ H1 fun xs H2=>Q (x::xs) H2
section
variable {X:Cx}{e:Expr}{es:List Expr}{te:TE}{t:TA}{pos:Pos}
theorem f7:PA X [] Kf:=fun _ _ _ _ H Q I h=>nq ⟨[],H,I,.nil,h⟩
theorem b8 (ha:PE X e te) (hr:PA X es t) (hs:A2 (e::es) X.env=(false,eval e X.env)::A2 es X.env:=by rfl):PA X (e::es) (Ji te t):=by
 intro pos pins s σ H Q I h
 rw[hs]
 show j6 _ _ (spliced ((false,eval e X.env)::V2 pos (A2 es X.env))) _ _ s
 refine fI (P1 (ha pins s σ H _ I h) fun u s1 ⟨x,H1,I1,r1,q1⟩=>?_)
 exact P1 (hr pos pins s1 σ H1 _ I1 q1) fun us s2 ⟨xs,H2,I2,r2,q2⟩=>⟨x::xs,H2,I2,.cons r1 r2,q2⟩
def tTup (t:TA):TE:=fun σ H Q=>t σ H fun xs H1=>xs.length<=i7/\∀p,H1 p=none->Q (.ref p) (A6 H1 p (.tup xs))
def tLst (t:TA):TE:=fun σ H Q=>t σ H fun xs H1=>xs.length<=i7/\∀p,H1 p=none->Q (.ref p) (A6 H1 p (.lst xs))
theorem cC {x1} (h:PA X es t):PE X (.Tuple es x1 pos) (tTup t):=by
 intro pins s σ H Q I hq
 refine wpAny_Tuple_spliced (P1 (h pos pins s σ H _ I hq) fun us s1 ⟨xs,H1,I1,r,z,q⟩=>⟨by rw[<- r.length];exact z,?_⟩)
 have hf:H1 s1.heap.objs.size=none:=I1.hok.fresh (i9 _)
 refine⟨.ref s1.heap.objs.size,A6 H1 s1.heap.objs.size (.tup xs),I1.laid (t':=s1.toks) (fun b u e=>d9 _ e) (i9 _) ?_,rfl,q _ hf⟩
 exact⟨z,us,r,⟨_,j8 _ rfl,rfl,_,rfl⟩⟩
theorem ag (h:PA X es t):PE X (.List es pos) (tLst t):=by
 intro pins s σ H Q I hq
 refine wpAny_List_spliced (P1 (h pos pins s σ H _ I hq) fun us s1 ⟨xs,H1,I1,r,z,q⟩=>⟨by rw[<- r.length];exact z,?_⟩)
 have hf:H1 s1.heap.objs.size=none:=I1.hok.fresh (i9 _)
 refine⟨.ref s1.heap.objs.size,A6 H1 s1.heap.objs.size (.lst xs),I1.laid (t':=s1.toks) (fun b u e=>d9 _ e) (i9 _) ?_,rfl,q _ hf⟩
 exact⟨z,us,0,r,j8 _ rfl⟩
end
abbrev Sp:=List V->Hp->VK->XK->Prop
abbrev Ai:=List Env->Hp->f6->XK->b9->f6->Prop
structure wu (P:i8) (w:t9) (K:j7) (mg:Str->Option b9) (base:Heap) (A:y7) (outer:List Env) (s:f6) (H:Hp):Prop where
 frames:A.frames=some outer
 mod:Mod K mg base
 bs:∀b o,base.get? b=some o->s.heap.get? b=some o/\H b=none
 bsz:base.objs.size<=s.heap.objs.size
 funs:s.heap.FunFrames base outer
 frf:∀b∈dz outer,H b=none
 hok:bU P w H s.heap
 bare:jk s.gens
noncomputable def CE (outer:List Env) (P:i8) (w:t9) (H:Hp) (s:f6) (Q:VK) (u:b9) (s':f6):Prop :=
 ∃v H',s'.os=s.os/\jk s'.gens/\Un (dz outer) [] H H' s.heap s'.heap/\bU P w H' s'.heap/\G9 v u/\Q v H'
noncomputable def CR (CX:Ai) (outer:List Env) (P:i8) (w:t9) (H:Hp) (s:f6) (Q:VK) (E:XK) (r:eW) (s':f6):Prop :=
 match r with
 | .ok (.ret u)=>CE outer P w H s Q u s'
 | .ok _=>False
 | .error e=>CX outer H s E e s'
structure G7 (P:i8) (w:t9) (K:j7) (mg:Str->Option b9) (base:Heap) (CX:Ai) (k:Nat) (f:Addr) (fd:A9) (ps:List Str) (sp:Sp):Prop where
 len:∀vs H Q E,sp vs H Q E->vs.length=ps.length
 run:∀(A:y7) (outer:List Env) (s:f6) (H:Hp) (args:Args) (us:List b9) (vs:List V) (Q:VK) (E:XK),Y9 k A->wu P w K mg base A outer s H->sy s fd args (ps.zip us)->G6 vs us->sp vs H Q E ->
  U8 (r0 P w) A (.call (.ref f) args) (CR CX outer P w H s Q E) s
theorem G7.mono {P:i8}{w:t9}{K:j7}{mg:Str->Option b9}{base:Heap}{CX:Ai}{j k:Nat}{f:Addr}{fd:A9}{ps:List Str}{sp:Sp} (F:G7 P w K mg base CX j f fd ps sp) (h:j<=k):
  G7 P w K mg base CX k f fd ps sp:=⟨F.len,fun A outer s H args us vs Q E hr=>F.run A outer s H args us vs Q E (hr.mono h)⟩
variable {mg:Str->Option b9}{base:Heap}
theorem wu.make {outer:List Env}(e:wu P w K mg base A outer s H) (C:Addr) (us:List b9) (kw:List (Str × b9)):
  wu P w K mg base (A.under (.builtin "type.__call__" ⟨.ref C::us,kw⟩)) outer s H:=⟨by first|exact e.frames | (simpa [wL,Code.envs,yW,pushEnvs] using e.frames),e.mod,e.bs,e.bsz,e.funs,e.frf,e.hok,e.bare⟩
section
variable {X:Cx}{pins:List (Addr × Obj)}{σ:St}{H:Hp}{s s':f6}
theorem C0.env0 (I:C0 X pins σ H s):wu X.prog X.w X.K X.mg X.base X.A X.stack s H :=
 ⟨I.ok.frames,I.ok.mod,I.bs,j9 I.ok.bsz I.sz,I.stack,I.stkFree,I.hok,I.bare⟩
theorem C0.after {Q:VK}{u:b9} (I:C0 X pins σ H s) (h:CE X.stack X.prog X.w H s Q u s'):EP X pins σ Q u s':=by
 obtain⟨v,H',os,bare,un,hok,r,q⟩:=h
 obtain⟨hh,g,d,t,os'⟩:=s'
 obtain rfl:os'=s.os:=os
 exact⟨v,H',I.call (h':=hh) (g':=g) (d':=d) (t':=t) (ch:=[]) un hok bare (fun b z=>absurd z (by simp)),r,q⟩
end
def CN (sp:Sp) (dvs:List V) (E:XK) (t:TA):TE:=fun σ H Q=>t σ H fun vs H1=>sp (vs++dvs) H1 Q E
def ve (C:Addr) (m:Str) (sp:Sp) (dvs:List V) (E:XK) (ta:TE) (t:TA):TE:=fun σ H Q=>ta σ H fun x H1=>∃a dx fs,x=.ref a/\H1 a=some (.ins C dx fs)/\fs.lookup m=none /\
 t σ H1 fun vs H2=>sp (x::(vs++dvs)) H2 Q E
def ND (C:Addr) (sp:Sp) (dvs:List V) (E:XK) (t:TA):TE:=fun σ H Q=>t σ H fun vs H1=>∀x dx,H1 x=none->H1 dx=none->dx≠x ->
 sp (.ref x::(vs++dvs)) (A6 (A6 H1 dx (.own x)) x (.ins C dx [])) (fun v H2=>v=.non/\Q (.ref x) H2) E
noncomputable def bc (K:j7) (fd:A9) (ps:List Str) (ds:List b9):Prop :=
 ∀(s:f6) (us:List b9),K.In s.heap->(us++ds).length=ps.length->sy s fd ⟨us,[]⟩ (ps.zip (us++ds))
variable {ps:List Str}
theorem bc.all {fd:A9}(h:∀us:List b9,us.length=ps.length->fG fd ⟨us,[]⟩=pure (ps.zip us)):bc K fd ps []:=fun s us _ hl=>by
 rw[S8] at hl ⊢
 exact .of_eq (h us hl)
def du (CX:Ai) (X:Cx) (E:XK):Prop:=∀(pins:List (Addr × Obj)) (σ:St) (H:Hp) (s:f6) (e:b9) (s':f6),C0 X pins σ H s->CX X.stack H s E e s'->X.xe e s'
section
variable {X:Cx}{CX:Ai}{k:Nat}{f C:Addr}{fd:A9}{ps:List Str}{sp:Sp}{dvs:List V}{ds:List b9}{E:XK}{x m:Str}{p pos apos:Pos}{e o:Expr}{es:List Expr}{ta:TE}{t:TA}
theorem DJ {pins:List (Addr × Obj)}{σ:St}{H:Hp}{s:f6}{Q:VK}{us:List b9}{vs:List V} (F:G7 X.prog X.w X.K X.mg X.base CX k f fd ps sp) (hr:Y9 k X.A) (hb:bc X.K fd ps ds) (hd:G6 dvs ds) (hx:du CX X E)
  (I:C0 X pins σ H s) (r:G6 vs us) (h:sp (vs++dvs) H Q E):j6 (r0 X.prog X.w) X.A (call (.ref f) us) (EP X pins σ Q) X.xe s:=by
 have r2:G6 (vs++dvs) (us++ds):=r.append hd
 have hl:(us++ds).length=ps.length:=by rw[<- r2.length];exact F.len _ _ _ _ h
 refine ip (aE (F.run X.A X.stack s H ⟨us,[]⟩ (us++ds) (vs++dvs) Q E hr I.env0 (hb s us I.kIn hl) r2 h) fun r s' hq=>?_)
 cases r with
 | error e=>exact hx pins σ H s e s' I hq
 | ok fl =>
  cases fl with
  | ret u=>exact I.after hq
  | next=>exact D6 hq
  | brk=>exact D6 hq
  | cont=>exact D6 hq
theorem zF (F:G7 X.prog X.w X.K X.mg X.base CX k f fd ps sp) (hr:Y9 k X.A) (hg:Gl X x) (hm:X.mg x=some (.ref f)) (hk:Y6 X.K (.ref f)=true) (hb:bc X.K fd ps ds) (hd:G6 dvs ds) (hx:du CX X E)
  (ha:PA X (e::es) t) (hdb:(x == ("__debug__":Str))=false:=by decide) (he:A2 (e::es) X.env=(false,eval e X.env)::A2 es X.env:=by rfl) (hpl:(V2 pos (A2 es X.env)).any (·.1)=false:=by rfl):
  PE X (.Call (.Name x p) (e::es) [] pos) (CN sp dvs E t):=by
 intro pins s σ H Q I h
 refine X4 (jt I hg hm ?_ hdb)
 refine Ci (h₀:=X.base) I.ok.mod.kin hk (P1 (ha pos pins s σ H _ I h) fun us s1 ⟨vs,H1,I1,r,q⟩=>⟨I1.kIn,?_⟩) he hpl
 exact DJ F hr hb hd hx I1 r q
theorem zC {pl:Sem Bool} (he:PE X o ta) (c:Cd X.K C) (hm:IT X.K C m f) (F:G7 X.prog X.w X.K X.mg X.base CX k f fd ps sp) (hr:Y9 k X.A) (hb:bc X.K fd ps ds) (hd:G6 dvs ds) (hx:du CX X E) (ha:PA X (e::es) t)
  (hst:A2 (e::es) X.env=(false,eval e X.env)::A2 es X.env:=by rfl) (hpl:(V2 pos (A2 es X.env)).any (·.1)=false:=by rfl)
  (ht:eval (.Call (.Attribute o m apos) (e::es) [] pos) X.env=(do
   let ov <- eval o X.env
   Gy apos.atName
   let (f,first) <- kF [ov] (uQ ov m pl)
   callWith pos f first (V2 pos (A2 (e::es) X.env)) (sj pos (jg [] X.env))):=by rfl):
  PE X (.Call (.Attribute o m apos) (e::es) [] pos) (ve C m sp dvs E ta t):=by
 intro pins s σ H Q I h
 refine W.methodCall_KW (pl:=pl) (P1 (he pins s σ H _ I h) fun u s1 ⟨x,H1,I1,rx,a,dx,fs,ex,ea,l,q⟩=>?_) ht
 subst ex
 obtain rfl:u=n9 a:=rx
 refine yy I1 ea c hm l ?_
 refine Ci (first:=[.ref a]) (h₀:=X.base) I.ok.mod.kin hm.kp (P1 (ha pos pins s1 σ H1 _ I1 q) fun us s2 ⟨vs,H2,I2,r,q2⟩=>⟨I2.kIn,?_⟩) hst hpl
 exact DJ (us:=.ref a::us) (vs:=.ref a::vs) F hr hb hd hx I2 (.cons rfl r) q2
structure Mk (K:j7) (C f:Addr):Prop where
 makes:BS K C=true
 init:N0 K (.ref C) "__init__"=some (some (.ref f))
 fn:JN K (.ref f)=true
 kp:Y6 K (.ref C)=true
theorem DH {pins:List (Addr × Obj)}{σ:St}{H:Hp}{s:f6}{Q:VK}{us:List b9}{vs:List V} (M:Mk X.K C f) (F:G7 X.prog X.w X.K X.mg X.base CX k f fd ps sp) (hr:Y9 (k+1) X.A) (hb:bc X.K fd ps ds) (hd:G6 dvs ds)
  (hx:du CX X E) (I:C0 X pins σ H s) (r:G6 vs us)
  (h:∀x dx,H x=none->H dx=none->dx≠x->sp (.ref x::(vs++dvs)) (A6 (A6 H dx (.own x)) x (.ins C dx [])) (fun v H2=>v=.non/\Q (.ref x) H2) E):
  j6 (r0 X.prog X.w) X.A (call (.ref C) us) (EP X pins σ Q) X.xe s:=by
 have hq:=h (s.heap.objs.size+1) s.heap.objs.size (I.hok.fresh (V5 _)) (I.hok.fresh (i9 _)) (m9 (J3 _))
 have I2:=C0.made (C:=C) I
 have r2:G6 (V.ref (s.heap.objs.size+1)::(vs++dvs)) (n9 (s.heap.objs.size+1)::(us++ds)):=.cons rfl (r.append hd)
 have hl:(n9 (s.heap.objs.size+1)::us++ds).length=ps.length:=by
  have e:=r2.length
  rw[F.len _ _ _ _ hq] at e
  exact e.symm
 refine ip (EO (f:=f) I.kIn M.makes M.init (beq_iff_eq.mp M.fn) (aE (F.run _ X.stack _ _ ⟨n9 (s.heap.objs.size+1)::us,[]⟩ (n9 (s.heap.objs.size+1)::(us++ds)) _ _ E (hr.make C us [])
  (I2.env0.make C us []) (hb _ (n9 (s.heap.objs.size+1)::us) I2.kIn hl) r2 hq) fun r s' hq'=>?_))
 cases r with
 | error e=>exact hx pins σ _ _ e s' I2 hq'
 | ok fl =>
  cases fl with
  | ret u =>
   obtain⟨v,H',I3,rv,ev,q3⟩:=I2.after hq'
   subst ev
   exact⟨rv,⟨V.ref (s.heap.objs.size+1),H',I3,rfl,q3⟩⟩
  | next=>exact D6 hq'
  | brk=>exact D6 hq'
  | cont=>exact D6 hq'
theorem Ee (M:Mk X.K C f) (F:G7 X.prog X.w X.K X.mg X.base CX k f fd ps sp) (hr:Y9 (k+1) X.A) (hg:Gl X x) (hm:X.mg x=some (.ref C)) (hb:bc X.K fd ps ds) (hd:G6 dvs ds) (hx:du CX X E)
  (hdb:(x == ("__debug__":Str))=false:=by decide):PE X (.Call (.Name x p) [] [] pos) (ND C sp dvs E Kf):=by
 intro pins s σ H Q I h
 refine X4 (jt I hg hm ?_ hdb)
 exact W.callWith_K0 I.kIn M.kp (DH (us:=[]) M F hr hb hd hx I .nil h)
end
section
variable {X:Cx}{CX:Ai}{k:Nat}{f C:Addr}{fd:A9}{ps ks:List Str}{sp:Sp}{E:XK}{x m:Str}{p pos apos kpos:Pos}{e o:Expr}{es:List Expr}{kws:List nM}{te ta:TE}{t tk:TA}{nm:Option Str}
structure KBinds (K:j7) (fd:A9) (ps ks:List Str) (g:List b9->List b9->List b9) (gV:List V->List V->List V):Prop where
 to:∀(s:f6) (us ws:List b9),K.In s.heap->(g us ws).length=ps.length->sy s fd ⟨us,ks.zip ws⟩ (ps.zip (g us ws))
 rel:∀{vs:List V}{us:List b9}{zs:List V}{ws:List b9},G6 vs us->G6 zs ws->G6 (gV vs zs) (g us ws)
variable {g:List b9->List b9->List b9}{gV:List V->List V->List V}
end
structure B1 (N P:List Str) (sc:M8):Prop where
 kind:sc.kind=.function
 co:sc.isCoroutine=false
 gen:sc.isGenerator=false
 nd:N.Nodup
 pre:N.take P.length=P
 par:∀x∈P,sc.names.lookup x=some .local ∨ sc.names.lookup x=some .cell
 nofree:∀y∈sc.names,y.2≠.free
theorem rP {kindOf:Str->Option ar}{x:Str}:∀{binds:List (Str × b9)}{m:Str->Option b9},(∀v,(x,v) ∉ binds)->Ge kindOf binds m x=m x
 | [],_,_=>rfl
 | (n,v)::r,m,h=>by
  unfold Ge
  rw[rP fun w hw=>h w (i4 _ hw)]
  split
  ·have:x≠n:=by rintro rfl;exact h v f9
   simp[this]
  ·rfl
theorem rR {kindOf:Str->Option ar}{x:Str}:∀{binds:List (Str × b9)}{m:Str->Option b9},(∀v,(x,v) ∉ binds)->Gf kindOf binds m x=m x
 | [],_,_=>rfl
 | (n,v)::r,m,h=>by
  unfold Gf
  rw[rR fun w hw=>h w (i4 _ hw)]
  split
  ·rfl
  ·have:x≠n:=by rintro rfl;exact h v f9
   simp[this]
theorem rQ {kindOf:Str->Option ar}{x:Str}{v:b9}:∀{P:List Str}{vs:List b9}{i:Nat}{m:Str->Option b9},P.Nodup->P[i]?=some x->vs[i]?=some v->kindOf x=some .local ->
  Ge kindOf (P.zip vs) m x=some v
 | [],_,_,_,_,h,_,_=>by simp at h
 | _::_,[],_,_,_,_,h,_=>by simp at h
 | p::P,w::vs,0,m,nd,h1,h2,hk=>by
  simp at h1 h2;subst h1;subst h2
  show Ge kindOf ((p,w)::P.zip vs) m p=_
  unfold Ge
  rw[rP fun v hv=>(List.nodup_cons.mp nd).1 (jw hv).1,if_pos hk]
  simp
 | p::P,w::vs,i+1,m,nd,h1,h2,hk=>by
  show Ge kindOf ((p,w)::P.zip vs) m x=_
  unfold Ge
  exact rQ (i:=i) (List.nodup_cons.mp nd).2 (by simpa using h1) (by simpa using h2) hk
theorem rS {kindOf:Str->Option ar}{x:Str}{v:b9}:∀{P:List Str}{vs:List b9}{i:Nat}{m:Str->Option b9},P.Nodup->P[i]?=some x->vs[i]?=some v->kindOf x≠some .local ->
  Gf kindOf (P.zip vs) m x=some v
 | [],_,_,_,_,h,_,_=>by simp at h
 | _::_,[],_,_,_,_,h,_=>by simp at h
 | p::P,w::vs,0,m,nd,h1,h2,hk=>by
  simp at h1 h2;subst h1;subst h2
  show Gf kindOf ((p,w)::P.zip vs) m p=_
  unfold Gf
  rw[rR fun v hv=>(List.nodup_cons.mp nd).1 (jw hv).1,if_neg hk]
  simp
 | p::P,w::vs,i+1,m,nd,h1,h2,hk=>by
  show Gf kindOf ((p,w)::P.zip vs) m x=_
  unfold Gf
  exact rS (i:=i) (List.nodup_cons.mp nd).2 (by simpa using h1) (by simpa using h2) hk
noncomputable def start (N:List Str) (vs:List V):St:=vs.map some++aP (N.length - vs.length) none
noncomputable def dU (CX:Ai) (P:i8) (w:t9) (K:j7) (mg:Str->Option b9) (base:Heap) (N:List Str) (qual:Str) (scope:M8) (f:Addr) (cd:b9) (A:y7) (outer:List Env) (s:f6) (H:Hp) (E:XK):Cx where
 prog:=P
 w:=w
 K:=K
 mg:=mg
 base:=base
 A:=A.deeper (Y5 qual scope s.heap.objs.size f cd)
 N:=N
 s₀:=s
 H₀:=H
 env:=Y5 qual scope s.heap.objs.size f cd
 outer:=outer
 stack:=Y5 qual scope s.heap.objs.size f cd::outer
 ex:=[]
 calm:=true
 fn:=fun _=>true
 pn:=[]
 xe:=fun e s'=>j6 (r0 P w) (A.deeper (Y5 qual scope s.heap.objs.size f cd)) (nH (Y5 qual scope s.heap.objs.size f cd) e) (fun _ s''=>CX outer H s E e s'') (fun e' s''=>CX outer H s E e' s'') s'
theorem lr {sc:M8}{n:Nat}{x:Str} (h:sc.names.lookup x=some .cell):∃c,(P8 n sc.names []).lookup x=some c:=by
 have q:=so sc.names n [] (.inl h)
 exact Option.isSome_iff_exists.mp q
theorem rK {CX:Ai}{N:List Str}{qual:Str}{scope:M8}{f:Addr}{cd:b9}{outer:List Env}{s1:f6}{E:XK}{vs:List V}
  (S:B1 N ps scope) (hd:A.handled=none) (e0:wu P w K mg base A outer s H) (hl:vs.length=ps.length) (r:G6 vs us)
  (x:InCallC s s.heap.objs.size (Ge (Y5 qual scope s.heap.objs.size f cd).kindOf (ps.zip us) fun _=>none) (P8 (s.heap.objs.size+1) scope.names []) (Gf (Y5 qual scope s.heap.objs.size f cd).kindOf (ps.zip us) fun _=>none) s1):
  C0 (dU CX P w K mg base N qual scope f cd A outer s H E) [] (start N vs) H s1:=by
 have hpl:ps.length<=N.length:=by have:=congrArg BX S.pre;rw[F9] at this;lia
 obtain⟨h1,tk,rfl,hk⟩:=x.done
 have noA:∀b:Addr,b ∉ (dU CX P w K mg base N qual scope f cd A outer s H E).ex:=fun b z=>absurd (show b∈([]:List Addr) from z) (by simp)
 refine⟨⟨e0.mod,S.kind,rfl,rfl,i9 _,fun y z c h1 h2=>?_,fun y hy=>?_,fun y c _ h=>?_,fun _=>hd,yX e0.frames,.inr ⟨rfl,rfl⟩,fun b z=>absurd z (noA b),e0.bs,e0.bsz,fun b _ _=>noA b,fun b z=>absurd z (noA b),e0.funs,e0.frf⟩,
  rfl,e0.bare,Un.kept hk,⟨_,x.toInCall.ns,fun i y v h1 h2 h3=>?_⟩,fun y c h=>⟨_,x.cell y c h⟩,e0.hok.fresh (i9 _),fun y c h=>?_,fun p hp=>absurd (show p∈([]:List (Addr × Obj)) from hp) (by simp),e0.hok.kept hk,?_⟩
 ·exact name_of_addr x.apart (bq h1) (bq h2)
 ·have hy:scope.names.lookup y=some .cell ∨ scope.names.lookup y=some .free:=hy
  rcases hy with hy|hy
  ·exact lr hy
  ·exact absurd rfl (S.nofree _ (bq hy))
 ·exact aq (x.above y c (bq h))
 ·have hi:i<vs.length:=by
   unfold start at h2
   by_cases hi:i<vs.length
   ·exact hi
   ·rw[uF (by simpa using hi)] at h2
    rw[List.getElem?_replicate] at h2
    split at h2 <;> cases h2
  have ha:vs[i]?=some v:=by
   unfold start at h2
   rw[uU (by simpa using hi),v8] at h2
   cases e:vs[i]? with
   | none=>rw[e] at h2;cases h2
   | some a=>rw[e] at h2;cases h2;rfl
  obtain⟨u,hu,rv⟩:=r.get ha
  have hp:ps[i]?=some y:=by
   rw[<- S.pre,List.getElem?_take_of_lt (by lia)];exact h1
  have ndP:ps.Nodup:=by rw[<- S.pre];exact S.nd.sublist (List.take_sublist _ _)
  refine⟨u,rv,?_⟩
  rcases S.par y (y8 hp) with k|k
  ·exact .inl ⟨k,rQ ndP hp hu k⟩
  ·obtain⟨c,e⟩:=lr (n:=s.heap.objs.size+1) k
   refine .inr ⟨.inl k,c,e,?_⟩
   have q:=x.cell y c e
   rw[rS ndP hp hu (by show scope.names.lookup y≠_;rw[k];decide)] at q
   exact q
 ·exact e0.hok.fresh (aq (x.above y c (bq h)))
 ·unfold start
  show _=N.length
  rw[y6,d8,List.length_replicate]
  lia
theorem Fu {CX:Ai}{k:Nat}{f:Addr}{name qual:Str}{params:bP}{body:List Stmt}{scope:M8}{dV kV doc pm cdv ct oc:b9}{an od:Option Addr}
  {osl:Array (Option b9)}{N:List Str}{sp:Sp} (lk:K.lookup f=some ⟨oc,od,.func (bM name qual params body scope dV kV doc pm an cdv ct),osl⟩) (hcd:eV K cdv qual=true) (S:B1 N ps scope)
  (len:∀vs H Q E,sp vs H Q E->vs.length=ps.length)
  (hbody:∀(A:y7) (outer:List Env) (s:f6) (H:Hp) (vs:List V) (Q:VK) (E:XK),Y9 k (A.deeper (Y5 qual scope s.heap.objs.size f cdv))->sp vs H Q E ->
   ∃t,qu (dU CX P w K mg base N qual scope f cdv A outer s H E) body t/\t { nx:=fun _ H'=>Q .non H',rt:=Q } (start N vs) H):
  G7 P w K mg base CX (k+1) f (bM name qual params body scope dV kV doc pm an cdv ct) ps sp:=by
 refine⟨len,fun A outer s H args us vs Q E hr e0 hb r hsp=>?_⟩
 have hl:=len _ _ _ _ hsp
 have KX:K.In s.heap:=e0.mod.kin.keeps fun b o e=>(e0.bs b o e).1
 have lim:s.heap.NoLimit:=e0.mod.nolimit.keeps fun b o e=>(e0.bs b o e).1
 have hkind:∀y∈ps.zip us,scope.names.lookup y.1=some .local ∨ (scope.names.lookup y.1=some .cell/\((P8 (s.heap.objs.size+1) scope.names []).lookup y.1).isSome=true):=fun ⟨n,v⟩ hy=>by
  rcases S.par n (jw hy).1 with q|q
  ·exact .inl q
  ·exact .inr ⟨q,so _ _ _ (.inl q)⟩
 refine IZ hr.depth (KX _ _ lk) rfl S.co S.gen rfl (W.codeRec_of KX hcd) (hb _ _ _ _ ?_)
 refine Aj S.kind hkind fun env he s1 x=>?_
 subst he
 refine⟨lim.keeps x.toInCall.keep,codeAny_func ?_⟩
 obtain⟨t,ht,hq⟩:=hbody A outer s H vs Q E (hr.deeper _) hsp
 have I:C0 (dU CX P w K mg base N qual scope f cdv A outer s H E) [] (start N vs) H s1:=rK S hr.hd e0 hl r x
 refine B5 (ht [] s1 (start N vs) H _ I hq) (fun fl s' hs=>?_) fun e s' hs=>hs
 have fin:∀{σ':St}{H':Hp}{v:V}{u:b9},C0 (dU CX P w K mg base N qual scope f cdv A outer s H E) [] σ' H' s'->G9 v u->Q v H'->CE outer P w H s Q u s' :=
  fun {σ' H' v u} J rv q=>⟨v,H',J.os,J.bare,J.base,J.hok,rv,q⟩
 cases fl with
 | ret u =>
  obtain⟨v,σ',H',J,rv,q⟩:=hs
  exact fin J rv q
 | next =>
  obtain⟨σ',H',J,q⟩:=hs
  exact fin (v:=V.non) (u:=A3) J rfl q
 | brk =>
  obtain⟨_,_,_,q⟩:=hs
  exact D6 q
 | cont =>
  obtain⟨_,_,_,q⟩:=hs
  exact D6 q
section
variable {X:Cx}{x:Str}{p pos:Pos}{e:Expr}{es:List Expr}{t:TA}{id T:String}{r:List V->Hp->VK->Prop}
def tCB (r:List V->Hp->VK->Prop) (t:TA):TE:=fun σ H Q=>t σ H fun vs H1=>r vs H1 Q
theorem A1 (hc:bB X (.builtin id) r) (hg:Gl X x) (hm:X.mg x=none) (hv:Z1 x=some (.builtin id)) (ha:PA X (e::es) t) (hn:x≠"__name__":=by decide) (hdb:(x == ("__debug__":Str))=false:=by decide)
  (he:A2 (e::es) X.env=(false,eval e X.env)::A2 es X.env:=by rfl) (hpl:(V2 pos (A2 es X.env)).any (·.1)=false:=by rfl):PE X (.Call (.Name x p) (e::es) [] pos) (tCB r t):=by
 intro pins s σ H Q I h
 refine X4 (mq I hg hm hv ?_ hn hdb)
 exact PyProof.Rows.callWith_builtin1 (P1 (ha pos pins s σ H _ I h) fun us s1 ⟨vs,H1,I1,r1,q1⟩=>hc pins s1 σ H1 vs us Q I1 r1 q1) he hpl
theorem D9 (hc:bB X (.type T) r) (hg:Gl X x) (hm:X.mg x=none) (hv:Z1 x=some (.type T)) (ha:PA X (e::es) t) (hn:x≠"__name__":=by decide) (hdb:(x == ("__debug__":Str))=false:=by decide)
  (he:A2 (e::es) X.env=(false,eval e X.env)::A2 es X.env:=by rfl) (hpl:(V2 pos (A2 es X.env)).any (·.1)=false:=by rfl):PE X (.Call (.Name x p) (e::es) [] pos) (tCB r t):=by
 intro pins s σ H Q I h
 refine X4 (mq I hg hm hv ?_ hn hdb)
 exact Z5 (P1 (ha pos pins s σ H _ I h) fun us s1 ⟨vs,H1,I1,r1,q1⟩=>hc pins s1 σ H1 vs us Q I1 r1 q1) he hpl
end
end L2
namespace HT
open PySem PyProof.Rows
noncomputable def ik:List Int->List Int->Bool
 | [],[]=>false
 | [],_::_=>true
 | _::_,[]=>false
 | x::xs,y::ys=>if x=y then ik xs ys else decide (x<y)
theorem yq (x y:Int) (xs ys:List Int):ik (x::xs) (y::ys)=if x=y then ik xs ys else decide (x<y):=rfl
theorem qI:ik [] []=false:=rfl
theorem pJ (y:Int) (ys:List Int):ik [] (y::ys)=true:=rfl
theorem pK (x:Int) (xs:List Int):ik (x::xs) []=false:=rfl
theorem Fx (A:y7) (s:f6) (a:Int) (t:Tok) (c:Int) (u:Tok):∃e,lE A s (.int a t) (.int c u) e/\(e=true ↔ a=c):=
 ⟨(a == c),jB a t c u,by simp⟩
theorem DP (A:y7) (s:f6) (a:Int) (t:Tok) (c:Int) (u:Tok) (prog:i8) (w:t9) (E:b9->f6->Prop) (Q:b9->f6->Prop) (h:Q (.bool (decide (a<c))) s):
  j6 (r0 prog w) A (richCompare .Lt (.int a t) (.int c u)) Q E s :=
 (PyProof.Rows.lt_int h:j6 (r0 prog w) A (M4 .Lt (.int a t) (.int c u)) Q E s)
section
open PySem.SeqAt
open PySem.AutoSeq1 (wpAny_loadPart')
open PySem.MeetsSeq PySem.MeetsSeq2 PySem.MeetsSeq3
theorem qD (l b:Addr) (items items2:Array b9) (n n2:Nat) (dd dd2:Option Addr) (sl sl2:Array (Option b9)) (ns ms:List Int) (hi:cN items.toList ns) (hj:cN items2.toList ms):
  Meets (gF.«tuple.__lt__» ⟨[.ref l,.ref b],[]⟩)
   (fun _ R s=>s.heap.get? l=some { cls:=.type "tuple",dict:=dd,data:=.seq items n,slots:=sl }/\s.heap.get? b=some { cls:=.type "tuple",dict:=dd2,data:=.seq items2 n2,slots:=sl2 } /\
    R (.ok (.ret (.bool (ik ns ms)))) s):=
 .of_wp fun prog w A R s h=>by
  obtain⟨hp,g,d,tk,os⟩:=s;obtain⟨hl,hb,h⟩:=h
  have f2:=AutoSeq1.sub_tuple_tuple
  have z1:items.size=ns.length:=by rw[<- hi.length];simp
  have z2:items2.size=ms.length:=by rw[<- hj.length];simp
  wp_walk using lA hl,lA hb,wpAny_forIn_list _ (fun V3 b s'=>b.1=none/\s'=⟨hp,g,d,tk,os⟩/\∃(vs ws:List b9) (ns' ms':List Int),V3=vs.zip ws /\
   cN vs ns'/\cN ws ms'/\ns'.length+items2.size=ms'.length+items.size/\R (.ok (.ret (.bool (ik ns' ms')))) ⟨hp,g,d,tk,os⟩) _
  case turn =>
   rintro⟨y,x⟩ V3 b s' ⟨hb',rfl,vs,ws,ns',ms',hz,hvi,hwi,hlen,hR⟩
   cases hvi with
   | nil=>rw[List.zip_nil_left] at hz;cases hz
   | cons a t hvi' =>
    cases hwi with
    | nil=>rw[List.zip_nil_right] at hz;cases hz
    | cons c u hwi' =>
     rw[bT] at hz
     injection hz with hyx hrest
     injection hyx with hy hx
     subst hy hx
     rw[yq] at hR
     simp only[m8] at hlen
     obtain⟨e,he,hiff⟩:=Fx A.in1 ⟨hp,g,d,tk,os⟩ a t c u
     refine b7 (he prog w _ _ ?_)
     cases e with
     | true =>
      rw[if_pos (hiff.mp rfl)] at hR
      wp_walk
      exact⟨rfl,rfl,_,_,_,_,hrest,hvi',hwi',by lia,hR⟩
     | false =>
      rw[if_neg (fun q=>absurd (hiff.mpr q) u7)] at hR
      have hri:=DP A.in1 ⟨hp,g,d,tk,os⟩ a t c u prog w
      wp_walk using hri
      exact⟨_,rfl,by simpa using hR⟩
  case fin =>
   rintro⟨b1,b2⟩ s' ⟨hb',rfl,vs,ws,ns',ms',hz,hvi,hwi,hlen,hR⟩
   simp only at hb'
   subst hb'
   have hv:ik ns' ms'=decide (items.size<items2.size):=by
    cases hvi with
    | nil =>
     cases hwi with
     | nil =>
      simp only[X6] at hlen
      rw[qI]
      exact(decide_eq_false (by lia)).symm
     | cons c u hw =>
      simp only[X6,m8] at hlen
      rw[pJ]
      exact(decide_eq_true (by lia)).symm
    | cons a t hv =>
     cases hwi with
     | nil =>
      simp only[X6,m8] at hlen
      rw[pK]
      exact(decide_eq_false (by lia)).symm
     | cons c u hw =>
      rw[bT] at hz
      cases hz
   rw[hv] at hR
   wp_walk
   exact⟨_,rfl,by simpa [Builtin.Tuple.tupleCompareSizes] using hR⟩
  case h =>
   exact⟨rfl,rfl,items.toList,items2.toList,ns,ms,rfl,hi,hj,by lia,h⟩
end
section
variable {prog:i8}{w:t9}{A:y7}{E:b9->f6->Prop}{s:f6}
theorem ym {l b:Addr}{items items2:Array b9}{ns ms:List Int}{Q:b9->f6->Prop} (hl:IsTup s.heap l items) (hb:IsTup s.heap b items2) (hi:cN items.toList ns) (hj:cN items2.toList ms)
  (hu:A.units<dj) (h:Q (.bool (ik ns ms)) s):j6 (r0 prog w) A (M4 .Lt (.ref l) (.ref b)) Q E s:=by
 obtain⟨⟨cls,dd,data,sl⟩,ho,hc,n,hd⟩:=id hl
 obtain⟨⟨cls2,dd2,data2,sl2⟩,ho2,hc2,n2,hd2⟩:=id hb
 simp only at hc hd hc2 hd2
 subst hc hd hc2 hd2
 exact richCompare_meets_room (op:=.Lt) ⟨_,ho,rfl⟩ ⟨_,ho2,rfl⟩ PySem.F.slot_tuple_lt PySem.F.entry_tuple_lt (PySem.F.args_tuple_lt_2 _ _) (qD l b items items2 n n2 dd dd2 sl sl2 ns ms hi hj)
  ⟨ho,ho2,show P3 (ik ns ms)≠Value.notImplemented/\Q (.bool (ik ns ms)) s from ⟨(fun x=>nomatch x),h⟩⟩ hu
noncomputable def tu (n d:Nat):Option Int->Nat
 | none=>d
 | some v=>if v<0 then (v+(n:Int)).toNat else min v.toNat n
theorem vn (n d:Nat):tu n d none=d:=rfl
theorem zu (n d k:Nat):tu n d (some (k:Int))=min k n:=by
 show (if (k:Int)<0 then ((k:Int)+(n:Int)).toNat else min (k:Int).toNat n)=min k n
 rw[if_neg (by lia),Q4]
end
end HT
namespace L2
open PySem PySem.Spec PyProof.Rows
abbrev TO:=St->Hp->(Option Int->Hp->Prop)->Prop
noncomputable def PO (X:Cx) (e:Option Expr) (t:TO):Prop :=
 ∀(pins:List (Addr × Obj)) (s:f6) (σ:St) (H:Hp) (Q:Option Int->Hp->Prop),C0 X pins σ H s->t σ H Q ->
  j6 (r0 X.prog X.w) X.A (evalPart e X.env) (fun u s'=>∃o H',C0 X pins σ H' s'/\IsPart u o/\Q o H') X.xe s
def GO:TO:=fun _ H Q=>Q none H
def NB (t:TE):TO:=fun σ H Q=>t σ H fun x H1=>∃i,x=.int i/\Q (some i) H1
theorem yx {ns:List Int}:∀{us:List b9},G6 (ns.map V.int) us->cN us ns:=by
 induction ns with
 | nil=>intro us r;rw[yU] at r;cases r;exact .nil
 | cons n ns ih =>
  intro us r
  rw[r9] at r
  cases r with
  | cons r1 r2 =>
   obtain⟨t,e⟩:=r1
   subst e
   exact .cons n t (ih r2)
section
variable {X:Cx}{e:Expr}{te:TE}{lo hi:Option Expr}{tl th:TO}{pos p2:Pos}
theorem tH:PO X none GO:=by
 intro pins s σ H Q I h
 rw[evalPart_none]
 exact g0 ⟨none,H,I,.none,h⟩
theorem tG (h:PE X e te):PO X (some e) (NB te):=by
 intro pins s σ H Q I hw
 rw[evalPart_some]
 refine P1 (h pins s σ H _ I hw) fun u s1 ⟨x,H1,I1,r1,q1⟩=>?_
 obtain⟨i,rfl,q⟩:=q1
 obtain⟨t,rfl⟩:=r1
 exact⟨some i,H1,I1,.int i t,q⟩
noncomputable def SlR (X:Cx) (r:V->Option Int->Option Int->Hp->VK->Prop):Prop :=
 ∀(pins:List (Addr × Obj)) (s:f6) (σ:St) (H:Hp) (x:V) (v vl vu:b9) (lo hi:Option Int) (sl:Addr) (Q:VK),C0 X pins σ H s->G9 x v->s.heap.IsSliceOf sl vl vu .none->IsPart vl lo->IsPart vu hi->r x lo hi H Q ->
  ∃T id,typeLookup (.type T) "__getitem__"=pure (some (.builtin id))/\s.TypeIs v T/\j6 (r0 X.prog X.w) X.A (yS v (.ref sl)) (EP X pins σ Q) X.xe s
def tSl (r:V->Option Int->Option Int->Hp->VK->Prop) (te:TE) (tl th:TO):TE:=fun σ H Q=>te σ H fun x H1=>tl σ H1 fun l H2=>th σ H2 fun u H3=>r x l u H3 Q
theorem oY {r:V->Option Int->Option Int->Hp->VK->Prop} (hr:SlR X r) (he:PE X e te) (hl:PO X lo tl) (hu:PO X hi th):PE X (.Subscript e (.Slice lo hi none p2) pos) (tSl r te tl th):=by
 intro pins s σ H Q I h
 refine Nl (P1 (he pins s σ H _ I h) fun v s1 ⟨x,H1,I1,r1,q1⟩=>?_)
 refine wpAny_Slice (P1 (hl pins s1 σ H1 _ I1 q1) fun vl s2 ⟨l,H2,I2,pl,q2⟩=>P1 (hu pins s2 σ H2 _ I2 q2) fun vu s3 ⟨u,H3,I3,pu,q3⟩=>?_)
 rw[evalPart_none]
 refine g0 ?_
 have I4:C0 X pins σ H3 { s3 with heap:=s3.heap.push { cls:=.type "slice",data:=.fields #[vl,vu,.none] } }:=I3.kept (t':=s3.toks) fun b ob q=>d9 _ q
 obtain⟨T,id,hT,ht,hg⟩:=hr pins { s3 with heap:=s3.heap.push { cls:=.type "slice",data:=.fields #[vl,vu,.none] } } σ H3 x v vl vu l u s3.heap.objs.size Q I4 r1 (Heap.IsSliceOf.new ..) pl pu q3
 show j6 (r0 X.prog X.w) X.A (Cg e (.Slice lo hi none p2) v (.ref s3.heap.objs.size)) (EP X pins σ Q) X.xe { s3 with heap:=s3.heap.push { cls:=.type "slice",data:=.fields #[vl,vu,.none] } }
 exact tail_any (ops:=[.ref s3.heap.objs.size,v]) ht hT hg (by with_unfolding_all rfl)
noncomputable def nD (xs:List V) (lo hi:Option Int):List V:=(xs.drop (HT.tu xs.length 0 lo)).take (HT.tu xs.length xs.length hi - HT.tu xs.length 0 lo)
theorem vT (xs:List V) (lo hi:Option Int):(nD xs lo hi).length<=xs.length:=by
 unfold nD
 rw[F9,iz]
 lia
end
noncomputable def Ij (n:Nat) (i:Int):Option Nat:=if 0<=i then (if i<n then some i.toNat else none) else if -(n:Int)<=i then some (i+n).toNat else none
noncomputable def rV {α:Type} (xs:List α) (i:Int):Option α:=(Ij xs.length i).bind fun j=>xs[j]?
theorem zO {n:Nat}{i:Int}{j:Nat} (h:Ij n i=some j):seqIndex? i n=some j/\j<n/\-(n:Int)<=i/\i<n:=by
 unfold Ij at h
 by_cases h0:0<=i
 ·rw[if_pos h0] at h
  by_cases h1:i<n
  ·rw[if_pos h1] at h
   have e:i.toNat=j:=D8 h
   exact⟨by rw[JL h0 h1,e],by lia,by lia,h1⟩
  ·rw[if_neg h1] at h;cases h
 ·rw[if_neg h0] at h
  by_cases h1:-(n:Int)<=i
  ·rw[if_pos h1] at h
   have e:(i+n).toNat=j:=D8 h
   exact⟨by rw[Gz (by lia) h1,e],by lia,h1,by lia⟩
  ·rw[if_neg h1] at h;cases h
theorem ui {α:Type}{xs:List α}{i:Int}{v:α} (h:rV xs i=some v):∃j,seqIndex? i xs.length=some j/\xs[j]?=some v/\j<xs.length/\-(xs.length:Int)<=i/\i<xs.length:=by
 unfold rV at h
 cases e:Ij xs.length i with
 | none=>rw[e] at h;cases h
 | some j =>
  rw[e] at h
  obtain⟨h1,h2,h3,h4⟩:=zO e
  exact⟨j,h1,h,h2,h3,h4⟩
theorem F6 {α:Type}{xs:List α}{j:Nat}{v:α} (h:xs[j]?=some v):rV xs (j:Int)=some v:=by
 have hj:j<xs.length:=(List.getElem?_eq_some_iff.mp h).1
 have e:Ij xs.length (j:Int)=some j:=by
  unfold Ij
  rw[if_pos (by lia),if_pos (by lia)];simp
 unfold rV;rw[e];exact h
def IR (b:Expr):Prop:=∀o i,wD b false o i=operate [o,i] (yS o i)
noncomputable def MZ (X:Cx) (r:R2):Prop :=
 ∀(value slice:Expr) (pins:List (Addr × Obj)) (s:f6) (σ:St) (H:Hp) (x y:V) (v u:b9) (Q:VK),C0 X pins σ H s->G9 x v->G9 y u->r x y H Q ->
  wD slice false v u=operate [v,u] (yS v u)->j6 (r0 X.prog X.w) X.A (Cg value slice v u) (EP X pins σ Q) X.xe s
noncomputable def MY (X:Cx) (id:String) (r:V->List V->Hp->VK->Prop):Prop :=
 ∀(pins:List (Addr × Obj)) (s:f6) (σ:St) (H:Hp) (x:V) (xs:List V) (v:b9) (us:List b9) (Q:VK),C0 X pins σ H s->G9 x v->G6 xs us->r x xs H Q ->
  j6 (r0 X.prog X.w) X.A (call (.builtin id) (v::us)) (EP X pins σ Q) X.xe s
section
variable {X:Cx}{a b:Expr}{ta tb:TE}{pos:Pos}
theorem K5 {r:R2} (hr:MZ X r) (ha:PE X a ta) (hb:PE X b tb) (hs:IR b):PE X (.Subscript a b pos) (Pq r ta tb):=by
 intro pins s σ H Q I h
 exact Nl (Mr ha hb I h fun v u s2 x y H2 I2 rx ry q=>hr a b pins s2 σ H2 x y v u Q I2 rx ry q (hs _ _))
def Oe (K:j7):R2:=fun x y H Q=>∃p xs i v,x=.ref p/\y=.int i/\fM K H p xs/\rV xs i=some v/\Q v H
def Od (K:j7):R2:=fun x y H Q=>∃p xs i v,x=.ref p/\y=.int i/\fC K H p xs/\rV xs i=some v/\Q v H
def rIxS:R2:=fun x y H Q=>∃z i c,x=.str z/\y=.int i/\z.length<=i7/\rV z.cps.toList i=some c/\Q (.str ⟨#[c]⟩) H
theorem K1:MZ X (Oe X.K):=by
 intro value slice pins s σ H x y v u Q I rx ry h hs
 obtain⟨p,xs,i,z,rfl,rfl,hq,he,q⟩:=h
 cases rx
 obtain⟨t,rfl⟩:=ry
 obtain⟨its,r,pl,hz⟩:=I.list hq
 obtain⟨j,h1,h2,h3,h4,h5⟩:=ui he
 obtain⟨w,ew,rw'⟩:=r.get h2
 have hl:=r.length
 have hn:=mh
 have fin:EP X pins σ Q w s:=⟨z,H,I,rw',q⟩
 by_cases h0:0<=i
 ·have hj:i.toNat=j:=by
   rw[JL h0 h5] at h1
   exact D8 h1
  exact item_listR pl.isList h0 (by lia) (by rw[hj];simpa using ew) fin hs
 ·have hj:(i+(its.toArray.size:Int)).toNat=j:=by
   rw[Gz (by lia) h4] at h1
   rw[A0,<- hl]
   exact D8 h1
  exact Gx (x:=w) pl.isList.typeIs slot_list_getitem.lookup
   (wpAny_getItem_list_neg (Q:=fun r s'=>r=w/\EP X pins σ Q r s') pl.isList (by lia) (by rw[A0] <;> lia) (by lia) (by rw[hj];simpa using ew) ⟨rfl,fin⟩) hs
theorem ah:MZ X (Od X.K):=by
 intro value slice pins s σ H x y v u Q I rx ry h hs
 obtain⟨p,xs,i,z,rfl,rfl,hq,he,q⟩:=h
 cases rx
 obtain⟨t,rfl⟩:=ry
 obtain⟨its,r,pl,hz⟩:=I.tuple hq
 obtain⟨j,h1,h2,h3,h4,h5⟩:=ui he
 obtain⟨w,ew,rw'⟩:=r.get h2
 have hl:=r.length
 have hn:=mh
 have fin:EP X pins σ Q w s:=⟨z,H,I,rw',q⟩
 exact Gx (x:=w) pl.typeIs slot_tuple_getitem.lookup
  (getItem_tuple (j:=j) (Q:=fun r s'=>r=w/\EP X pins σ Q r s') pl (by lia) (by lia) (by rw[A0,<- hl];exact h1) (by simpa using ew) ⟨rfl,fin⟩) hs
theorem LP:MZ X rIxS:=by
 intro value slice pins s σ H x y v u Q I rx ry h hs
 obtain⟨z,i,c,rfl,rfl,hz,he,q⟩:=h
 obtain⟨t,rfl⟩:=rx
 obtain⟨t',rfl⟩:=ry
 obtain⟨j,h1,h2,h3,h4,h5⟩:=ui he
 have hl:z.cps.toList.length=z.length:=by simp[Str.length]
 rw[hl] at h1 h4 h5
 have hn:=mh
 exact tail_any (iq s z t) slot_str_getitem.lookup (getItem_str (c:=c) (by
  have e1:decide (i < -(2 ^ 63:Int))=false:=decide_eq_false (by lia)
  have e2:decide (i ≥ 2 ^ 63)=false:=decide_eq_false (by lia)
  rw[e1,e2,Nu]) (by rw[h1];simpa using h2) ⟨.str ⟨#[c]⟩,H,I.tok _,⟨_,rfl⟩,q⟩) hs
theorem yi (its:List b9) (n j:Nat) (u:b9):Y7 (·.setIfInBounds j u) { cls:=.type "list",data:=.seq its.toArray n }={ cls:=.type "list",data:=.seq (its.set j u).toArray n }:=by
 simp[Y7]
theorem C0.lst {pins:List (Addr × Obj)}{σ:St}{H:Hp}{s:f6}{p:Addr}{xs:List V} (I:C0 X pins σ H s) (h:H p=some (.lst xs)):
  ∃(its:List b9) (n:Nat),G6 xs its/\s.heap.get? p=some { cls:=.type "list",data:=.seq its.toArray n }/\xs.length<=i7:=by
 obtain⟨z,its,n,r,e⟩:=I.hok p _ h
 exact⟨its,n,r,e,z⟩
variable {s:f6}
theorem C0.lstUpd {pins:List (Addr × Obj)}{σ:St}{H:Hp}{p:Addr}{xs ys:List V}{its its':List b9}{n n':Nat}{f:Obj->Obj} (I:C0 X pins σ H s) (h:H p=some (.lst xs))
  (ho:s.heap.get? p=some { cls:=.type "list",data:=.seq its.toArray n }) (hf:f { cls:=.type "list",data:=.seq its.toArray n }={ cls:=.type "list",data:=.seq its'.toArray n' }) (r:G6 ys its') (hz:ys.length<=i7) (t:Nat):
  C0 X pins σ (A6 H p (.lst ys)) { s with heap:=s.heap.update p f,toks:=t }:=by
 have e:(s.heap.update p f).get? p=some { cls:=.type "list",data:=.seq its'.toArray n' }:=by
  rw[J8 f ho (by rw[hf] <;> rfl),hf]
 refine I.write (x:=p) (e:=p) (by rw[h];trivial) (.inl rfl) (fun b u hb q=>(C6 _ _ (E8 hb)).trans q) ⟨_,e⟩ ?_
 exact⟨hz,its',n',r,e⟩
noncomputable def Oa:V->V->V->Hp->(Hp->Prop)->Prop:=fun o i v H Q=>∃p xs k j,o=.ref p/\i=.int k/\H p=some (.lst xs)/\Ij xs.length k=some j/\Q (A6 H p (.lst (xs.set j v)))
theorem oG:OO X Oa:=by
 intro pins s σ H o i v ov iv u Q I ro ri rv h
 obtain⟨p,xs,k,j,rfl,rfl,hp,hj,q⟩:=h
 cases ro
 obtain⟨t,rfl⟩:=ri
 obtain⟨its,n,r,ho,hz⟩:=I.lst hp
 obtain⟨h1,h2,h3,h4⟩:=zO hj
 have hl:=r.length
 have hn:=mh
 have I':C0 X pins σ (A6 H p (.lst (xs.set j v))) { s with heap:=s.heap.update p (Y7 (·.setIfInBounds j u)) } :=
  I.lstUpd hp ho (yi its n j u) (r.set rv j) (by rw[jx];exact hz) s.toks
 by_cases h0:0<=k
 ·have hk:k.toNat=j:=by
   rw[JL h0 h4] at h1
   exact D8 h1
  exact W.ki_setAt ho h0 (by lia) (by rw[A0,<- hl];exact h4) (by rw[hk];exact⟨_,I',q⟩)
 ·have hk:(k+(its.toArray.size:Int)).toNat=j:=by
   rw[Gz (by lia) h3] at h1
   rw[A0,<- hl]
   exact D8 h1
  exact W.ki_setBack ho (by lia) (by rw[A0,<- hl];exact h3) (by lia) (by rw[hk];exact⟨_,I',q⟩)
theorem sM (lo hi:Option Int) (n:Nat):(fF lo hi none n).1=((HT.tu n 0 lo:Nat):Int)/\(fF lo hi none n).2.1=((HT.tu n n hi:Nat):Int)/\(fF lo hi none n).2.2=1:=by
 refine⟨?_,?_,rfl⟩
 ·cases lo with
  | none=>simp[fF,HT.tu]
  | some i =>
   simp only[fF,HT.tu,Gg,show (1:Int) > 0 by decide,if_true]
   by_cases h:i<0
   ·simp only[h,if_true] <;> lia
   ·simp only[h,if_false] <;> lia
 ·cases hi with
  | none=>simp[fF,HT.tu]
  | some i =>
   simp only[fF,HT.tu,Gg,show (1:Int) > 0 by decide,if_true]
   by_cases h:i<0
   ·simp only[h,if_true] <;> lia
   ·simp only[h,if_false] <;> lia
theorem qF (its:List b9) (lo hi:Option Int):slicePick its.toArray lo hi none=((its.drop (HT.tu its.length 0 lo)).take (HT.tu its.length its.length hi - HT.tu its.length 0 lo)).toArray:=by
 obtain⟨h1,h2,h3⟩:=sM lo hi its.toArray.size
 unfold slicePick
 rw[h1,h2,h3]
 simp only[sliceRange_one,pick_run,A0] <;> rfl
noncomputable def rSlL (K:j7):V->Option Int->Option Int->Hp->VK->Prop:=fun x lo hi H Q=>∃a xs,x=.ref a/\fM K H a xs/\∀p,H p=none->Q (.ref p) (A6 H p (.lst (nD xs lo hi)))
theorem sO:SlR X (rSlL X.K):=by
 intro pins s σ H x v vl vu lo hi sl Q I rx hs pl pu h
 obtain⟨a,xs,rfl,hx,q⟩:=h
 cases rx
 obtain⟨its,r,ht,hz⟩:=I.list hx
 have hlen:=r.length
 refine⟨"list",_,slot_list_getitem.lookup,ht.isList.typeIs,?_⟩
 refine wpAny_getItem_list_slice ht.isList hs pl pu .none (by simp) ?_ (by rw[A0] <;> lia)
 rw[qF,<- hlen]
 refine⟨.ref s.heap.objs.size,_,I.laid (t':=s.toks) (o:=.lst (nD xs lo hi)) (fun b ob q=>d9 _ q) (i9 _) ?_,rfl,q _ (I.hok.fresh (i9 _))⟩
 exact⟨j9 (vT xs lo hi) hz,_,0,(r.drop (HT.tu xs.length 0 lo)).take (HT.tu xs.length xs.length hi - HT.tu xs.length 0 lo),j8 _ rfl⟩
noncomputable def lj:V->Bool
 | .non=>true
 | .bl _=>true
 | .int _=>true
 | .str _=>true
 | _=>false
noncomputable def Gp:V->V->Bool
 | .non,.non=>true
 | .bl a,.bl b=>a == b
 | .bl a,.int b=>(if a then 1 else 0) == b
 | .int a,.bl b=>a == (if b then 1 else 0)
 | .int a,.int b=>a == b
 | .str a,.str b=>a == b
 | _,_=>false
variable {x:V}
theorem Mf {A:y7}{y:V}{u v:b9} (ry:G9 y u) (rx:G9 x v) (fy:lj y=true) (fx:lj x=true):lE A s u v (Gp y x):=by
 cases y with
 | non =>
  cases ry
  cases x with
  | non=>cases rx;exact Aw _
  | bl b=>cases rx;exact SeqAt.EqAt.none_bool b
  | int b=>obtain⟨t,rfl⟩:=rx;exact SeqAt.EqAt.none_int b t
  | str b=>obtain⟨t,rfl⟩:=rx;exact SeqAt.EqAt.none_str b t
  | _=>exact absurd (show false=true from fx) u7
 | bl a =>
  cases ry
  cases x with
  | non=>cases rx;exact SeqAt.EqAt.bool_none a
  | bl b=>cases rx;exact uB a b
  | int b=>obtain⟨t,rfl⟩:=rx;exact SeqAt.EqAt.bool_int a b t
  | str b=>obtain⟨t,rfl⟩:=rx;exact SeqAt.EqAt.bool_str a b t
  | _=>exact absurd (show false=true from fx) u7
 | int a =>
  obtain⟨t',rfl⟩:=ry
  cases x with
  | non=>cases rx;exact SeqAt.EqAt.int_none a t'
  | bl b=>cases rx;exact SeqAt.EqAt.int_bool a t' b
  | int b=>obtain⟨t,rfl⟩:=rx;exact jB a t' b t
  | str b=>obtain⟨t,rfl⟩:=rx;exact wH a t' b t
  | _=>exact absurd (show false=true from fx) u7
 | str a =>
  obtain⟨t',rfl⟩:=ry
  cases x with
  | non=>cases rx;exact SeqAt.EqAt.str_none a t'
  | bl b=>cases rx;exact SeqAt.EqAt.str_bool a t' b
  | int b=>obtain⟨t,rfl⟩:=rx;exact wG a t' b t
  | str b=>obtain⟨t,rfl⟩:=rx;exact SeqAt.EqAt.str_str a t' b t
  | _=>exact absurd (show false=true from fx) u7
 | _=>exact absurd (show false=true from fy) u7
noncomputable def Iv (x:V) (u:b9):Bool:=match u with
 | .none=>Gp .non x
 | .bool b=>Gp (.bl b) x
 | .int i _=>Gp (.int i) x
 | .str z _=>Gp (.str z) x
 | _=>false
theorem Fw {y:V}{u:b9} (r:G9 y u) (f:lj y=true):Iv x u=Gp y x:=by
 cases y with
 | non=>cases r;rfl
 | bl b=>cases r;rfl
 | int i=>obtain⟨t,rfl⟩:=r;rfl
 | str z=>obtain⟨t,rfl⟩:=r;rfl
 | _=>exact absurd (show false=true from f) u7
theorem uo {x:V}:∀{xs:List V}{us:List b9},G6 xs us->xs.all lj=true->us.any (Iv x)=xs.any fun y=>Gp y x
 | _,_,.nil,_=>rfl
 | y::xs,u::us,.cons r t,f=>by
  rw[lF,w6] at f
  rw[aw,aw,Fw r f.1,uo t f.2]
theorem pF {A:y7}{s:f6}{x:V}{v:b9} (rx:G9 x v) (fx:lj x=true):∀{xs:List V}{us:List b9},G6 xs us->xs.all lj=true->∀u∈us,lE A s u v (Iv x u)
 | _,_,.nil,_=>fun u hu=>by cases hu
 | y::xs,u::us,.cons r t,f=>fun u' hu=>by
  rw[lF,w6] at f
  rcases List.mem_cons.mp hu with rfl|hu
  ·rw[Fw r f.1];exact Mf r rx f.1 fx
  ·exact pF rx fx t f.2 u' hu
noncomputable def inV (x:V) (xs:List V):Bool:=xs.any fun y=>Gp y x
def rIn (K:j7) (neg:Bool):R2:=fun x y H Q=>∃p xs,y=.ref p/\(fM K H p xs ∨ fC K H p xs)/\lj x=true/\xs.all lj=true/\Q (.bl (if neg then !inV x xs else inV x xs)) H
theorem AW:jE X (M4 .In) (rIn X.K false):=by
 intro pins s σ H x y v u Q I rx ry h
 obtain⟨p,xs,rfl,hq,fx,fs,q⟩:=h
 cases ry
 rcases hq with hq|hq
 ·obtain⟨its,r,pl,hz⟩:=I.list hq
  refine SeqAt.in_listAt (Iv x) pl.isList (fun w hw=>pF rx fx r fs w (by simpa using hw)) ⟨.bl _,H,I,rfl,?_⟩
  rw[show its.toArray.any (Iv x)=its.any (Iv x) by simp,uo r fs]
  exact q
 ·obtain⟨its,r,pl,hz⟩:=I.tuple hq
  refine SeqAt.in_tupleAt (Iv x) pl (fun w hw=>pF rx fx r fs w (by simpa using hw)) ⟨.bl _,H,I,rfl,?_⟩
  rw[show its.toArray.any (Iv x)=its.any (Iv x) by simp,uo r fs]
  exact q
theorem E2:bB X (.builtin "len") (fun xs H Q=>∃p ys,xs=[.ref p]/\(fM X.K H p ys ∨ fC X.K H p ys)/\Q (.int ys.length) H):=by
 intro pins s σ H xs us Q I r h
 obtain⟨p,ys,rfl,hq,q⟩:=h
 obtain⟨u,rfl,rx⟩:=iG r
 cases rx
 have hn:=mh
 rcases hq with hq|hq
 ·obtain⟨its,r',pl,hz⟩:=I.list hq
  have hlen:=r'.length
  exact Calls.call_len_list pl.isList (by simp only[A0] <;> lia) ⟨.int ys.length,H,I.tok _,⟨s.toks+1,by rw[A0,hlen]⟩,q⟩
 ·obtain⟨its,r',pl,hz⟩:=I.tuple hq
  have hlen:=r'.length
  exact len_tuple pl (by simp only[A0] <;> lia) ⟨.int ys.length,H,I.tok _,⟨s.toks+1,by rw[A0,hlen]⟩,q⟩
theorem lx:bB X (.builtin "len") (fun xs H Q=>∃z,xs=[.str z]/\z.length<=i7/\Q (.int z.length) H):=by
 intro pins s σ H xs us Q I r h
 obtain⟨z,rfl,hz,q⟩:=h
 obtain⟨u,rfl,t,rfl⟩:=iG r
 have hn:=mh
 exact len_str (by lia) ⟨.int z.length,H,I.tok _,⟨_,rfl⟩,q⟩
theorem ug:bB X (.type "list") (fun xs H Q=>∃p ys,xs=[.ref p]/\(fM X.K H p ys ∨ fC X.K H p ys)/\∀l,H l=none->Q (.ref l) (A6 H l (.lst ys))):=by
 intro pins s σ H xs us Q I r h
 obtain⟨p,ys,rfl,hq,q⟩:=h
 obtain⟨u,rfl,rx⟩:=iG r
 cases rx
 have fin:∀(its:List b9),G6 ys its->ys.length<=i7->∀(h':Heap) (c':Nat),(∀b o',s.heap.get? b=some o'->h'.get? b=some o') ->
   h'.get? s.heap.objs.size=some { cls:=.type "list",dict:=none,data:=.seq its.toArray c',slots:=#[] }->EP X pins σ Q (.ref s.heap.objs.size) { s with heap:=h' }:=fun its r' hz h' c' kp e =>
  ⟨.ref s.heap.objs.size,_,I.laid (t':=s.toks) kp (i9 _) (show P2 X.prog X.w _ h' _ (.lst ys) from ⟨hz,its,c',r',e⟩),rfl,q _ (I.hok.fresh (i9 _))⟩
 rcases hq with hq|hq
 ·obtain⟨its,r',pl,hz⟩:=I.list hq
  have hlen:=r'.length
  obtain⟨o,ho,hc,n,hd⟩:=pl.isList
  exact call_list_seq p (.inl rfl) ho hc hd (fun h' c' kp e=>fin its r' hz h' c' kp e) (by simp only[A0] <;> lia)
 ·obtain⟨its,r',pl,hz⟩:=I.tuple hq
  have hlen:=r'.length
  obtain⟨o,ho,hc,n,hd⟩:=pl
  exact call_list_seq p (.inr rfl) ho hc hd (fun h' c' kp e=>fin its r' hz h' c' kp e) (by simp only[A0] <;> lia)
theorem M9:bB X (.type "tuple") (fun xs H Q=>∃p ys,xs=[.ref p]/\((fM X.K H p ys/\∀l,H l=none->Q (.ref l) (A6 H l (.tup ys))) ∨ (fC X.K H p ys/\Q (.ref p) H))):=by
 intro pins s σ H xs us Q I r h
 obtain⟨p,ys,rfl,h⟩:=h
 obtain⟨u,rfl,rx⟩:=iG r
 cases rx
 rcases h with ⟨hq,q⟩|⟨hq,q⟩
 ·obtain⟨its,r',pl,hz⟩:=I.list hq
  have hlen:=r'.length
  refine call_tuple_list pl.isList (fun h' kp=>?_) (by simp only[A0] <;> lia)
  have I1:C0 X pins σ H { s with heap:=h' }:=I.kept (t':=s.toks) kp
  have I2:C0 X pins σ (A6 H h'.objs.size (.tup ys)) { s with heap:=h'.push { cls:=.type "tuple",data:=.seq its.toArray } } :=
   I1.laid (t':=s.toks) (fun b o e=>d9 _ e) (i9 _) (show P2 X.prog X.w _ _ _ (.tup ys) from ⟨hz,its,r',IsTup.new _ _⟩)
  exact⟨.ref h'.objs.size,_,I2,rfl,q _ (I1.hok.fresh (i9 _))⟩
 ·obtain⟨its,r',pl,hz⟩:=I.tuple hq
  exact call_tuple_same pl ⟨.ref p,H,I,rfl,q⟩
def tyV (K:j7) (T:String) (x:V) (H:Hp):Prop:=match x with
 | .str _=>T="str"
 | .int _=>T="int"
 | .ref p=>(T="list"/\∃xs,fM K H p xs) ∨ (T="tuple"/\∃o,K.lookup p=some o/\o.cls=.type "tuple"/\o.dict=none) ∨
   (T="dict"/\((∃kvs,H p=some (.dK kvs)) ∨ ∃kvs,H p=some (.dT kvs))) ∨ (T="set"/\∃S n,H p=some (.set S n))
 | _=>False
theorem JZ {pins:List (Addr × Obj)}{σ:St}{H:Hp}{T:String}{v:b9} (I:C0 X pins σ H s) (r:G9 x v) (ty:tyV X.K T x H):
  s.TypeIs v T/\∀a,v=.ref a->∃ob,s.heap.get? a=some ob/\ob.dict=none:=by
 cases x with
 | str z =>
  obtain⟨t,rfl⟩:=r
  cases (show T="str" from ty)
  exact⟨iq s z t,fun _ e=>nomatch e⟩
 | int i =>
  obtain⟨t,rfl⟩:=r
  cases (show T="int" from ty)
  exact⟨typeIs_int s i t,fun _ e=>nomatch e⟩
 | ref p =>
  cases r
  rcases ty with ⟨rfl,xs,hq⟩|⟨rfl,o,hk,hc,hd⟩|⟨rfl,hk⟩|⟨rfl,S,n,hk⟩
  ·obtain⟨its,_,pl,_⟩:=I.list hq
   refine⟨pl.isList.typeIs,fun a e=>?_⟩
   cases e
   obtain⟨o,n,e,c,hd,_⟩:=pl
   exact⟨o,e,hd⟩
  ·refine⟨⟨o,I.kIn p o hk,hc⟩,fun a e=>?_⟩
   cases e
   exact⟨o,I.kIn _ o hk,hd⟩
  ·have z:∃o,s.heap.get? p=some o/\o.ExactDict:=by
    rcases hk with ⟨kvs,hk⟩|⟨kvs,hk⟩
    ·obtain⟨_,_,_,_,o,_,_,e,ex,_⟩:=I.hok p _ hk
     exact⟨o,e,ex⟩
    ·obtain⟨_,_,_,_,o,_,_,e,ex,_⟩:=I.hok p _ hk
     exact⟨o,e,ex⟩
   obtain⟨o,e,ex⟩:=z
   refine⟨⟨o,e,ex.1⟩,fun a e2=>?_⟩
   cases e2
   exact⟨o,e,ex.2.1⟩
  ·obtain⟨o,_,_,_,e,ex,_⟩:=I.hok p _ hk
   refine⟨⟨o,e,ex.1⟩,fun a e2=>?_⟩
   cases e2
   exact⟨o,e,ex.2.1⟩
 | _=>exact D6 ty
def tBM (K:j7) (T:String) (r:V->List V->Hp->VK->Prop) (to:TE) (t:TA):TE:=fun σ H Q=>to σ H fun x H1=>tyV K T x H1/\t σ H1 fun xs H2=>r x xs H2 Q
variable {o e:Expr}{es:List Expr}{to:TE}{t:TA}{name:Str}{apos cpos:Pos}{T id:String}{r:V->List V->Hp->VK->Prop}
theorem cZ (pa:PlainAttrs T) (slot:Slot T name id) (hty:typeOf (.builtin id)=pure (.type "method_descriptor")) (hm:MY X id r) (ho:PE X o to) (ha:PA X (e::es) t)
  (hbase:cz o name X.env (eval o X.env)=eval o X.env:=by rfl)
  (hfew:((V2 cpos (A2 (e::es) X.env)).all (fun x=>!x.1)&&(sj cpos (jg [] X.env)).all (fun x=>x.1.isSome)
   && decide ((e::es).length+([]:List nM).length+(if ([]:List nM).isEmpty then 0 else 1)<30))=true:=by rfl)
  (hline:(apos.endLine == cpos.line)=true:=by rfl) (hs:A2 (e::es) X.env=(false,eval e X.env)::A2 es X.env:=by rfl) (hplain:(V2 cpos (A2 es X.env)).any (·.1)=false:=by rfl):
  PE X (.Call (.Attribute o name apos) (e::es) [] cpos) (tBM X.K T r to t):=by
 intro pins s σ H Q I h
 refine wpAny_Call_method_late hbase hfew hline rfl (P1 (ho pins s σ H _ I h) fun v s1 ⟨x,H1,I1,r1,ty,q1⟩=>?_)
 obtain⟨h1,h2⟩:=JZ I1 r1 ty
 refine⟨T,id,pa,slot,hty,h1,h2,?_⟩
 have hA:=ha cpos pins s1 σ H1 _ I1 q1
 rw[hs] at hA ⊢
 refine ae (by show (false || (V2 cpos (A2 es X.env)).any (·.1))=false;rw[hplain] <;> rfl) (dM ?_)
 exact P1 hA fun us s2 ⟨vs,H2,I2,r2,q2⟩=>hm pins s2 σ H2 x vs v us Q I2 r1 r2 q2
end
noncomputable def MtM (X:Cx) (id:String) (r:V->List V->Hp->VK->Prop):Prop :=
 ∀(pins:List (Addr × Obj)) (s:f6) (σ:St) (H:Hp) (x:V) (xs:List V) (v:b9) (us:List b9) (Q:VK),C0 X pins σ H s->G9 x v->G6 xs us->r x xs H Q ->
  j6 (r0 X.prog X.w) X.A (call (.builtin id) (v::us)) (EP X pins σ Q) X.xe s
theorem G6.one:∀{x:V}{us:List b9},G6 [x] us->∃u,us=[u]/\G9 x u
 | _,_,.cons r .nil=>⟨_,rfl,r⟩
section
variable {X:Cx}{pins:List (Addr × Obj)}{σ:St}{H:Hp}{s:f6}{l b:Addr}{xs ys zs:List V}
theorem C0.lset {its its':List b9}{n:Nat}{f:Array b9->Array b9}{t':Nat} (I:C0 X pins σ H s) (hH:H l=some (.lst xs))
  (e:s.heap.get? l=some { cls:=.type "list",data:=.seq its.toArray n }) (hf:f its.toArray=its'.toArray) (hv:G6 ys its') (hz:ys.length<=i7):
  C0 X pins σ (A6 H l (.lst ys)) { s with heap:=s.heap.update l (Y7 f),toks:=t' }:=by
 have q:=PySem.IsL.update e f
 rw[hf] at q
 refine I.write (x:=l) (e:=l) (by rw[hH];exact trivial) (.inl rfl) (fun b' u hb hu=>(C6 s.heap (Y7 f) (E8 hb)).trans hu) ⟨_,q⟩ ?_
 exact⟨hz,its',_,hv,q⟩
theorem C0.lnew {its:List b9}{t':Nat} (I:C0 X pins σ H s) (hv:G6 ys its) (hz:ys.length<=i7):
  C0 X pins σ (A6 H s.heap.objs.size (.lst ys)) { s with heap:=s.heap.push { cls:=.type "list",data:=.seq its.toArray },toks:=t' } :=
 I.laid (fun _ _ q=>d9 _ q) (i9 _) ⟨hz,its,0,hv,j8 _ rfl⟩
theorem C0.fresh (I:C0 X pins σ H s):H s.heap.objs.size=none:=I.hok.fresh (i9 _)
theorem C0.lstM (I:C0 X pins σ H s) (hH:H l=some (.lst xs)):xs.length<=i7/\∃(its:List b9) (n:Nat),G6 xs its/\xs.length=its.length/\s.heap.get? l=some { cls:=.type "list",data:=.seq its.toArray n }:=by
 obtain⟨z,its,n,r,e⟩:=I.hok l _ hH
 exact⟨z,its,n,r,r.length,e⟩
end
section
variable {X:Cx}
noncomputable def Ht:V->List V->Hp->VK->Prop:=fun x vs H Q=>∃l xs y,x=.ref l/\vs=[y]/\H l=some (.lst xs)/\xs.length<i7/\Q .non (A6 H l (.lst (xs++[y])))
theorem rD:MtM X "list.append" Ht:=by
 intro pins s σ H x vs v us Q I rx rv h
 obtain⟨l,xs,y,rfl,rfl,hH,hz,q⟩:=h
 cases rx
 obtain⟨u,rfl,ru⟩:=rv.one
 obtain⟨z,its,n,r,hl,e⟩:=I.lstM hH
 refine qx F.slot_list_append ⟨_,e,rfl⟩ F.entry_list_append (F.args_list_append_2 _ _) (PySem.list_append l its.toArray n u (by rw[A0];lia)) ⟨e,?_⟩
 refine⟨.non,_,I.lset (its':=its++[u]) hH e (by simp) (r.append (.cons ru .nil)) ?_,rfl,q⟩
 rw[y6,List.length_singleton]
 lia
def rCat:R2:=fun x y H Q=>∃l b xs zs,x=.ref l/\y=.ref b/\H l=some (.lst xs)/\H b=some (.lst zs)/\xs.length+zs.length<=i7/\∀p,H p=none->Q (.ref p) (A6 H p (.lst (xs++zs)))
theorem xZ:jE X (dH .Add) rCat:=by
 intro pins s σ H x y v u Q I rx ry h
 obtain⟨l,b,xs,zs,rfl,rfl,hH,hB,hz,q⟩:=h
 cases rx
 cases ry
 obtain⟨z,its,n,r,hl,e⟩:=I.lstM hH
 obtain⟨z2,its2,n2,r2,hl2,e2⟩:=I.lstM hB
 refine PySem.P.add_list e e2 ?_ (by rw[A0,A0];lia)
 have ea:its.toArray++its2.toArray=(its++its2).toArray:=by simp
 rw[ea]
 exact⟨.ref _,_,I.lnew (t':=s.toks) (r.append r2) (by rw[y6];lia),rfl,q _ I.fresh⟩
end
section
variable {prog:i8}{w:t9}{A:y7}{E:b9->f6->Prop}{s:f6}
set_option maxRecDepth 100000 in
end
section
variable {X:Cx}
end
end L2
namespace Att
open PySem PySem.W PySem.Calls PyProof.Rows
theorem nz {P:Params}{h:Heap}:∀(ns:List Int) (vs:List b9),WellAll P h vs (ns.map WData.int)->cN vs ns:=by
 intro ns
 induction ns with
 | nil =>
  intro vs w
  rw[yU] at w
  cases w
  exact .nil
 | cons n ns ih =>
  intro vs w
  rw[r9] at w
  cases w with
  | cons a b =>
   cases a
   exact .cons _ _ (ih _ b)
theorem AK {l:OpenLaw}{n:Nat} (hn:l.most=some n) {P:Params}{h:Heap}{args:List WData}{vals:List b9}
  (hpre:l.row.toRowW.claim.pre args=true) (hwl:WellAll P h vals args):
  ∃a vs ns,vals=[n9 a]/\args=[WData.list (ns.map WData.int)]/\h.get? a=some { cls:=.type "list",data:=.seq vs.toArray }/\cN vs ns/\ns.length<=n:=by
 have hsh:WShape.hasAll [] args [.list .int]=true:=(pre_splitW hpre).1
 have hc:l.pre.holds [] { args:=args }=true:=(pre_splitW hpre).2
 obtain⟨d,r,rfl,h1,h2⟩:=hasAllW_cons hsh
 obtain rfl:=hasAllW_nil h2
 obtain⟨xs,rfl,h3⟩:=hasW_list h1
 obtain⟨ns,rfl⟩:=items_int h3
 have hlen:ns.length<=n:=by
  unfold OpenLaw.pre at hc
  have h4:(WTm.not (.lt (.lit (.int (n:Int))) (.len (.arg 0)))).holds [] { args:=[.list (ns.map .int)] }=true:=by
   have h4:=(holds_andW hc).1
   rw[hn] at h4
   exact h4
  have h5:=condW_of h4 (w_not (w_lt w_lit (w_len_list (w_arg rfl))))
  rw[d8] at h5
  refine JO fun q=>?_
  have q':(n:Int)<((ns.length:Nat):Int):=by lia
  first
   | (rw[decide_eq_true q'] at h5;exact absurd h5 (by decide))
   | (simp at h5;lia)
 cases hwl with
 | cons w1 w2 =>
  cases w2
  cases w1 with
  | list ho hall=>exact⟨_,_,ns,rfl,rfl,ho,nz ns _ hall,hlen⟩
theorem AR (l:OpenLaw) (args:List WData):l.row.toRowW.claim.post args (.bool true) args=true :=
 postW_of (r:=l.row.toRowW) (X:=(true == true))
  (show Ph [] (.bool true) .bool=true by first|rfl|decide|simp[Ph,WShape.arms,WShape.armsAll])
  (show (WTm.eq .res (.lit (.bool true))).value [] { args:=args,res:=some (.bool true),after:=args }=some (.bool (true == true)) from w_eq_bool (w_res rfl) w_lit) rfl
theorem wg {l:OpenLaw}{n:Nat}{q:i8}{loose:List Str}{XP:(Str->Option b9)->Heap->Prop}{YP:t9->Heap->Prop}{d:DefRec}
  (hn:l.most=some n) (hdf:d.params.defaults=[])
  (call:∀(w:t9) (s₀ s₁:f6) (mg mb:Str->Option b9) (fa:Addr) (o:Obj) (pm cd doc:b9) (a:Addr) (vs:List b9) (ns:List Int),
   Ground q loose [] XP w s₀ mg mb s₁.heap->YP w s₁.heap ->
   s₁.heap.get? fa=some o->o.data=.func (docDef d.name d.params d.body d.scope pm cd doc)->s₁.heap.CodeRec cd d.name->mg d.name=some (.ref fa) ->
   s₁.heap.get? a=some { cls:=.type "list",data:=.seq vs.toArray }->cN vs ns->ns.length<=n->s₁.gens=#[] ->
   U8 (r0 l.prog w) si (.call (.ref fa) ⟨[.ref a],[]⟩) (fun r s'=>r=.ok (.ret (.bool true))/\OldK s₁.heap s'.heap/\s'.os=s₁.os/\jk s'.gens) s₁):
  WalkO q loose XP YP l.row.toRowW d [] (fun f vs=>Ck f vs):=by
 intro w s₀ s₁ mg mb G Y fa o pm cd doc dV kV ho hd hcd hD hmg hg args vals as hpre hlay hrd hwl hlo
 obtain rfl:dV=.none:=Dflts.none hD hdf
 obtain rfl:kV=.none:=Dflts.noKw hD
 obtain⟨a,vs,ns,rfl,rfl,hobj,hints,hlen⟩:=AK hn hpre hwl
 refine enter_call (aE (call w s₀ s₁ mg mb fa o pm cd doc a vs ns G Y ho (fd_plain hd) hcd hmg hobj hints hlen hg) fun r s' hq=>?_)
 obtain⟨rfl,h2,h3,h4⟩:=hq
 exact⟨.inl ⟨.bool true,.bool true,[],rfl,fun _=>rfl,.bool true,AR l _,fun _=>⟨uH,fun _ hm=>(nomatch hm)⟩⟩,h2,h3,h4⟩
section
variable {prog:i8}{w:t9}{A:y7}{E:b9->f6->Prop}{s:f6}{K:Frag}
end
end Att
namespace L2
open PySem PySem.Spec PyProof.Rows
theorem qV:∀{vs:List b9}{ns:List Int},cN vs ns->G6 (ns.map V.int) vs
 | _,_,.nil=>.nil
 | _,_,.cons n t h=>.cons ⟨t,rfl⟩ (qV h)
abbrev KOf {K:j7}{h:Heap} (_:K.In h):j7:=K
noncomputable def ak (s:Stmt):bP:=match s with
 | .FunctionDef _ a _ _ _ _ _ _ _ _=>a
 | _=>{ posonlyargs:=[],args:=[],vararg:=none,kwonlyargs:=[],kw_defaults:=[],kwarg:=none,defaults:=[] }
noncomputable def V1 (s:Stmt):List Stmt:=match s with
 | .FunctionDef _ _ b _ _ _ _ _ _ _=>b
 | _=>[]
noncomputable def r6 (s:Stmt):M8:=match s with
 | .FunctionDef _ _ _ _ _ _ sc _ _ _=>sc
 | _=>{ kind:=.function,names:=[],isGenerator:=false,isCoroutine:=false }
abbrev cQ:Ai:=fun _ _ _ _ _ _=>False
abbrev E0:XK:=fun _ _ _=>False
variable {X:Cx}
theorem Er :du cQ X E0:=fun _ _ _ _ _ _ _ h=>h.elim
structure Y3 (K:j7) (x qual:Str) (st:Stmt) (f:Addr) (fd:A9):Prop where
 ex:∃(oc:b9) (od:Option Addr) (kV doc pm:b9) (an:Option Addr) (cdv ct:b9) (osl:Array (Option b9)),
  fd=bM x qual (ak st) (V1 st) (r6 st) .none kV doc pm an cdv ct/\K.lookup f=some ⟨oc,od,.func fd,osl⟩/\eV K cdv qual=true
 kp:Y6 K (.ref f)=true
section
variable {P:i8}{w:t9}{K:j7}{mg:Str->Option b9}{base:Heap}
variable {x qual:Str}{f:Addr}
theorem Y3.ok {st:Stmt}{fd:A9}{N ps:List Str}{k:Nat}{sp:Sp} (F:Y3 K x qual st f fd) (S:B1 N ps (r6 st)) (len:∀vs H Q E,sp vs H Q E->vs.length=ps.length)
  (hbody:∀(cdv:b9) (A:y7) (outer:List Env) (s:f6) (H:Hp) (vs:List V) (Q:VK) (E:XK),Y9 k (A.deeper (Y5 qual (r6 st) s.heap.objs.size f cdv))->sp vs H Q E ->
   ∃t,qu (dU cQ P w K mg base N qual (r6 st) f cdv A outer s H E).nox (V1 st) t/\t { nx:=fun _ H'=>Q .non H',rt:=Q } (start N vs) H):G7 P w K mg base cQ (k+1) f fd ps sp:=by
 obtain⟨oc,od,kV,doc,pm,an,cdv,ct,osl,rfl,lk,hcd⟩:=F.ex
 refine Fu lk hcd S len fun A outer s H vs Q E hr hsp=>?_
 obtain⟨t,h,q⟩:=hbody cdv A outer s H vs Q E hr hsp
 exact⟨t,h.nox,q⟩
theorem Y3.binds {st:Stmt}{fd:A9}{ps:List Str} (F:Y3 K x qual st f fd)
  (h:∀(kV doc pm:b9) (an:Option Addr) (cdv ct:b9) (us:List b9),us.length=ps.length->fG (bM x qual (ak st) (V1 st) (r6 st) .none kV doc pm an cdv ct) ⟨us,[]⟩=pure (ps.zip us)):bc K fd ps []:=by
 obtain⟨oc,od,kV,doc,pm,an,cdv,ct,osl,rfl,lk,hcd⟩:=F.ex
 exact .all (h kV doc pm an cdv ct)
theorem kj {st:Stmt}{oc:b9}{od an:Option Addr}{osl:Array (Option b9)}{kV doc pm cdv ct:b9} (l:K.lookup f=some ⟨oc,od,.func (bM x qual (ak st) (V1 st) (r6 st) .none kV doc pm an cdv ct),osl⟩)
  (c:eV K cdv qual=true) (k:Y6 K (.ref f)=true):Y3 K x qual st f (bM x qual (ak st) (V1 st) (r6 st) .none kV doc pm an cdv ct):=⟨⟨oc,od,kV,doc,pm,an,cdv,ct,osl,rfl,l,c⟩,k⟩
end
variable {A:y7}
theorem fq {k:Nat} (hr:Y9 k A):A.units+1<dj:=K6 (Nat.add_le_add_left (by decide:1<=64) _) hr.units
variable {n:Nat}
theorem jo (h:n<=1000):n<i7:=K6 h (by decide)
section
variable {X:Cx}
theorem pv (i:Nat) {x:Str}{pos:Pos} (hN:X.N[i]?=some x:=by rfl) (hv:MV X.env.scope x:=by first|exact A4 rfl|exact bf (A4 rfl)|exact bf (bf rfl)) (hd:(x == ("__debug__":Str))=false:=by decide)
  (hcd:(x == ("__classdict__":Str))=false:=by decide):PE X (.Name x pos) (Kd i):=tL hN hv hd hcd
end
variable {B:Prop}
theorem N3 {A:Prop} (h:B):if false=true then A else B:=by
 rw[if_neg u7]
 exact h
theorem O2 {A:Prop} (h:A):if true=true then A else B:=by
 rw[if_pos rfl]
 exact h
theorem Ik {c A:Prop} [Decidable c] (h1:c->A) (h2:¬ c->B):if c then A else B:=by
 by_cases h:c
 ·rw[if_pos h]
  exact h1 h
 ·rw[if_neg h]
  exact h2 h
def n8 (H H':Hp):Prop:=∀b o,H b=some o->H' b=some o
theorem n8.refl (H:Hp):n8 H H:=fun _ _ h=>h
variable {H:Hp}
theorem n8.trans {H1 H2:Hp} (a:n8 H H1) (b:n8 H1 H2):n8 H H2:=fun c o h=>b c o (a c o h)
variable {H':Hp}
theorem n8.free (e:n8 H H') {l:Addr} (h:H' l=Nr):H l=Nr:=by
 cases q:H l with
 | none=>rfl
 | some o =>
  rw[e l o q] at h
  cases h
set_option maxHeartbeats 4000000
theorem cP:∀(names:List (Str × ar)) (n:Nat) (acc:List (Str × Addr)),P8 n names acc=P8 n names []++acc
 | [],n,acc=>rfl
 | (x,k)::r,n,acc=>by
  unfold P8
  split
  ·rw[cP r (n+1) ((x,n)::acc),cP r (n+1) [(x,n)],List.append_assoc]
   rfl
  ·exact cP r n acc
noncomputable def Q6 (env:Env):List (Str × ar)->List (Str × Addr)->List (Str × Addr)
 | [],acc=>acc
 | (x,k)::r,acc=>if k == .free then Q6 env r ((x,(env.cells.lookup x).getD 0)::acc) else Q6 env r acc
theorem wa {env:Env} (f:Str × ar->List (Str × Addr)->Sem (ForInStep (List (Str × Addr))))
  (hf:∀name kind cs,f (name,kind) cs=if kind == .free then (do let a <- cellOf env name;pure (.yield ((name,a)::cs))) else pure (.yield cs)):
  ∀(names:List (Str × ar)) (acc:List (Str × Addr)),(∀x∈names,x.2=.free->∃c,env.cells.lookup x.1=some c)->forIn names acc f=pure (Q6 env names acc)
 | [],acc,_=>by rw[cK];rfl
 | (x,k)::r,acc,h=>by
  have ih:=fun acc=>wa f hf r acc fun y hy=>h y (i4 _ hy)
  rw[eT,hf]
  unfold Q6
  by_cases hk:(k == T9)=true
  ·rw[if_pos hk,if_pos hk]
   obtain⟨c,hc⟩:=h (x,k) f9 (beq_iff_eq.mp hk)
   have hc':env.cells.lookup x=some c:=hc
   have:cellOf env x=pure c:=by unfold cellOf;rw[hc']
   rw[this,hc']
   simp only[pure_bind,Option.getD_some]
   exact ih _
  ·rw[if_neg hk,if_neg hk]
   simp only[pure_bind]
   exact ih _
variable {scope:M8}{env:Env}
theorem aZ (h:∀x∈scope.names,x.2=.free->∃c,env.cells.lookup x.1=some c):closureFor scope env=pure (Q6 env scope.names []):=by
 simp only[closureFor]
 rw[wa (env:=env) _ (fun name kind cs=>by cases hk:kind == T9 <;> simp[hk]) scope.names [] h]
 rfl
theorem gq {env:Env}:∀{names:List (Str × ar)}{acc:List (Str × Addr)}{x:Str}{c:Addr},(∀x∈names,x.2=.free->∃c,env.cells.lookup x.1=some c) ->
  (x,c)∈Q6 env names acc->(x,c)∈acc ∨ env.cells.lookup x=some c
 | [],acc,x,c,_,hm=>.inl hm
 | (y,k)::r,acc,x,c,h,hm=>by
  have hr:∀x∈r,x.2=.free->∃c,env.cells.lookup x.1=some c:=fun z hz=>h z (i4 _ hz)
  unfold Q6 at hm
  by_cases hk:(k == T9)=true
  ·rw[if_pos hk] at hm
   obtain⟨d,hd⟩:=h (y,k) f9 (beq_iff_eq.mp hk)
   have hd':env.cells.lookup y=some d:=hd
   rcases gq hr hm with q|q
   ·rcases List.mem_cons.mp q with e|q
    ·cases e
     right;rw[hd'];rfl
    ·exact .inl q
   ·exact .inr q
  ·rw[if_neg hk] at hm
   exact gq hr hm
theorem mw {env:Env}:∀{names:List (Str × ar)}{acc:List (Str × Addr)}{p:Str × Addr},p∈acc->p∈Q6 env names acc
 | [],_,_,h=>h
 | (y,k)::r,acc,p,h=>by
  unfold Q6
  split
  ·exact mw (i4 _ h)
  ·exact mw h
theorem dZ {env:Env}:∀{names:List (Str × ar)}{acc:List (Str × Addr)}{x:Str},(x,T9)∈names->∃c,(x,c)∈Q6 env names acc
 | [],_,_,h=>by cases h
 | (y,k)::r,acc,x,h=>by
  unfold Q6
  rcases List.mem_cons.mp h with e|h
  ·cases e
   rw[if_pos (by rfl)]
   exact⟨_,mw f9⟩
  ·split
   ·exact dZ h
   ·exact dZ h
theorem aY {α:Type}:∀{l:List (Str × α)}{x:Str}{c:α},(x,c)∈l->∃d,l.lookup x=some d
 | (k,v)::r,x,c,h=>by
  rw[F8]
  cases hb:x == k with
  | true=>exact⟨v,rfl⟩
  | false =>
   rcases List.mem_cons.mp h with e|h
   ·cases e;simp at hb
   ·exact aY h
theorem eP {α:Type}:∀{l l':List (Str × α)}{x:Str}{c:α},(l++l').lookup x=some c->l.lookup x=some c ∨ (l.lookup x=none/\l'.lookup x=some c)
 | [],l',x,c,h=>.inr ⟨rfl,h⟩
 | (k,v)::r,l',x,c,h=>by
  rw[ql,F8] at h
  rw[F8]
  cases hb:x == k with
  | true=>rw[hb] at h;exact .inl h
  | false=>rw[hb] at h;exact eP h
theorem Z2 {α:Type}:∀{l l':List (Str × α)}{x:Str}{c:α},l.lookup x=some c->(l++l').lookup x=some c
 | [],l',x,c,h=>by cases h
 | (k,v)::r,l',x,c,h=>by
  rw[ql,F8]
  rw[F8] at h
  cases hb:x == k with
  | true=>rw[hb] at h;exact h
  | false=>rw[hb] at h;exact Z2 h
theorem aN {α:Type}:∀{l l':List (Str × α)}{x:Str},l.lookup x=none->(l++l').lookup x=l'.lookup x
 | [],l',x,h=>rfl
 | (k,v)::r,l',x,h=>by
  rw[ql,F8]
  rw[F8] at h
  cases hb:x == k with
  | true=>rw[hb] at h;cases h
  | false=>rw[hb] at h;exact aN h
theorem eO {env:Env}:∀(names:List (Str × ar)) (x:Str),
  (names.map fun (n,k)=>if (k == T9&&env.scope.kind == .function&&env.kindOf n == some .cell) then (n,cV) else (n,k)).lookup x
   =(names.lookup x).map fun k=>if (k == T9&&env.scope.kind == .function&&env.kindOf x == some .cell)=true then cV else k
 | [],x=>rfl
 | (n,k)::r,x=>by
  have ih:=eO (env:=env) r x
  rw[r9]
  cases hx:x == n with
  | true =>
   have e:x=n:=beq_iff_eq.mp hx
   subst e
   by_cases hc:(k == T9&&env.scope.kind == .function&&env.kindOf x == some .cell)=true
   ·simp only[hc,if_true,F8,hx,bF]
   ·simp only[hc,F8,hx,bF]
    simp
  | false =>
   show bZ x ((if (k == T9&&env.scope.kind == .function&&env.kindOf n == some .cell)=true then (n,cV) else (n,k))::_)=_
   by_cases hc:(k == T9&&env.scope.kind == .function&&env.kindOf n == some .cell)=true
   ·rw[if_pos hc]
    simp only[F8,hx]
    exact ih
   ·rw[if_neg hc]
    simp only[F8,hx]
    exact ih
theorem hJ:∀{names:List (Str × ar)}{n:Nat}{acc:List (Str × Addr)}{x:Str}{d:Addr},(x,d)∈P8 n names acc->(x,d)∈acc ∨ (x,cV)∈names
 | [],_,_,_,_,h=>.inl h
 | (y,k)::r,n,acc,x,d,h=>by
  unfold P8 at h
  by_cases hk:(k == cV)=true
  ·rw[if_pos hk] at h
   have e:k=.cell:=beq_iff_eq.mp hk
   subst e
   rcases hJ h with q|q
   ·rcases List.mem_cons.mp q with z|z
    ·cases z;exact .inr f9
    ·exact .inl z
   ·exact .inr (i4 _ q)
  ·rw[if_neg hk] at h
   rcases hJ h with q|q
   ·exact .inl q
   ·exact .inr (i4 _ q)
noncomputable def dQ (scope:M8):Bool:=scope.names.all fun x=>scope.names.lookup x.1 == some x.2
theorem da (h:dQ scope=true) {x:Str × ar} (hx:x∈scope.names):scope.names.lookup x.1=some x.2:=beq_iff_eq.mp (List.all_eq_true.mp h x hx)
variable {x:Str}
theorem tE (h:(kE scope env).names.lookup x=some .cell ∨ (kE scope env).names.lookup x=some .free):
  scope.names.lookup x=some .cell ∨ scope.names.lookup x=some .free:=by
 unfold kE at h
 rw[eO] at h
 cases e:scope.names.lookup x with
 | none=>rw[e] at h;rcases h with h|h <;> cases h
 | some k =>
  rw[e,bF] at h
  by_cases hc:(k == T9&&env.scope.kind == .function&&env.kindOf x == some .cell)=true
  ·rw[w6,w6] at hc
   exact .inr (by rw[beq_iff_eq.mp hc.1.1])
  ·simp only[hc] at h
   simpa using h
variable {M:lB}{E:b9->f6->Prop}{s:f6}{cl:List (Str × Addr)}
theorem iX {globals:Addr}{qual:Str}{Q:Env->f6->Prop}
  (h:Q (newEnv scope s.heap.objs.size globals (P8 (s.heap.objs.size+1) scope.names []++cl) qual none .none (some env) kH)
   { s with heap:=ao (s.heap.push { cls:=.type "dict",data:=.dict #[] }) scope.names }):
  j6 M A (ir scope globals cl [] qual none .none (some env)) Q E s:=by
 simp only[ir,BW,if_true]
 refine b7 (wpAny_alloc ?_)
 refine b7 (wpAny_layCells _ (fun name kind cells=>by cases hkc:kind == cV <;> simp[hkc]) _ _ _ _ ?_)
 rw[show ({ s with heap:=s.heap.push { cls:=.type "dict",data:=.dict #[] } }:f6).heap.objs.size=s.heap.objs.size+1 from C5 ..,cP]
 exact b7 (g0 (g0 h))
noncomputable def Cx.comp (X:Cx) (scope:M8) (N:List Str) (s:f6) (H:Hp) (ex:List Addr):Cx where
 prog:=X.prog
 w:=X.w
 K:=X.K
 mg:=X.mg
 base:=X.base
 A:=X.A
 N:=N
 s₀:=s
 H₀:=H
 env:=compEnvC scope (P8 (s.heap.objs.size+1) scope.names []++Q6 X.env scope.names []) s.heap.objs.size X.env
 outer:=X.stack
 stack:=X.stack
 ex:=ex
 fn:=fun x=>scope.names.lookup x == some .cell
 calm:=X.calm
 pn:=[]
 xe:=fun _ _=>False
noncomputable def aA (ix:List (Option Nat)) (σ:St):St:=ix.map fun o=>o.bind fun i=>(σ[i]?).join
noncomputable def eZ (scope:M8) (N:List Str):List Str->List (Option Nat)->Bool
 | [],[]=>true
 | _::N',none::ix=>eZ scope N N' ix
 | x::N',some i::ix=>N[i]? == some x&&scope.names.lookup x == some .free&&eZ scope N N' ix
 | _,_=>false
theorem kX {scope:M8}{N:List Str}:∀{N':List Str}{ix:List (Option Nat)},eZ scope N N' ix=true->ix.length=N'.length
 | [],[],_=>rfl
 | _::N',none::ix,h=>by simp[kX (N':=N') (ix:=ix) h]
 | x::N',some i::ix,h=>by
  unfold eZ at h
  rw[w6] at h
  simp[kX (N':=N') (ix:=ix) h.2]
 | [],_::_,h=>by simp[eZ] at h
 | _::_,[],h=>by simp[eZ] at h
theorem kY {scope:M8}{N:List Str}:∀{N':List Str}{ix:List (Option Nat)}{j i:Nat},eZ scope N N' ix=true->ix[j]?=some (some i) ->
  ∃x,N'[j]?=some x/\N[i]?=some x/\scope.names.lookup x=some .free
 | [],[],j,i,_,e=>by simp at e
 | y::N',none::ix,0,i,h,e=>by simp at e
 | y::N',none::ix,j+1,i,h,e=>by
  obtain⟨x,h1,h2⟩:=kY (N':=N') (ix:=ix) (j:=j) (i:=i) h (by simpa using e)
  exact⟨x,by simpa using h1,h2⟩
 | y::N',some k::ix,0,i,h,e=>by
  unfold eZ at h
  rw[w6,w6] at h
  simp at e
  subst e
  exact⟨y,rfl,beq_iff_eq.mp h.1.1,beq_iff_eq.mp h.1.2⟩
 | y::N',some k::ix,j+1,i,h,e=>by
  unfold eZ at h
  rw[w6] at h
  obtain⟨x,h1,h2⟩:=kY (N':=N') (ix:=ix) (j:=j) (i:=i) h.2 (by simpa using e)
  exact⟨x,by simpa using h1,h2⟩
 | [],_::_,_,_,h,_=>by simp[eZ] at h
 | _::_,[],_,_,h,_=>by simp[eZ] at h
noncomputable def Y1 (scope:M8) (env:Env):Bool:=scope.names.all fun x=>!(x.2 == .free) || env.kindOf x.1 == some .cell || env.kindOf x.1 == some .free
theorem gX (h:Y1 scope env=true) {x:Str × ar} (hx:x∈scope.names) (hk:x.2=.free):env.kindOf x.1=some .cell ∨ env.kindOf x.1=some .free:=by
 have:=List.all_eq_true.mp h x hx
 rw[hk] at this
 simpa using this
section
variable {X:Cx}{pins:List (Addr × Obj)}{σ:St}{H:Hp}{s:f6}{scope:M8}{N:List Str}{ix:List (Option Nat)}{ex:List Addr}
theorem C0.closed (I:C0 X pins σ H s) (hf:Y1 scope X.env=true):∀x∈scope.names,x.2=.free->∃c,X.env.cells.lookup x.1=some c :=
 fun x hx hk=>I.ok.has x.1 (gX hf hx hk)
theorem vq {j:Nat}{v:V} (h:(aA ix σ)[j]?=some (some v)):∃i,ix[j]?=some (some i)/\σ[i]?=some (some v):=by
 unfold aA at h
 rw[v8] at h
 cases e:ix[j]? with
 | none=>rw[e] at h;cases h
 | some o =>
  rw[e] at h
  cases o with
  | none=>cases h
  | some i =>
   refine⟨i,rfl,?_⟩
   have h':(σ[i]?).join=some v:=D8 h
   cases q:σ[i]? with
   | none=>rw[q] at h';cases h'
   | some z=>rw[q] at h';exact congrArg some h'
theorem C0.comp (I:C0 X pins σ H s) (hk:scope.kind=.function) (hnm:dQ scope=true) (hf:Y1 scope X.env=true) (hx:eZ scope X.N N ix=true)
  (hex:∀b∈ex,H b=none/\b≠X.env.locals/\b ∉ X.fs/\(b∈X.ex ∨ X.s₀.heap.objs.size<=b)/\(∀x c,X.env.cells.lookup x=some c->c≠b)/\b<s.heap.objs.size):
  C0 (X.comp scope N s H ex) [] (aA ix σ) H { s with heap:=ao (s.heap.push { cls:=.type "dict",data:=.dict #[] }) scope.names }:=by
 have hcl:=I.closed hf
 have hkeep:∀b o,s.heap.get? b=some o->(ao (s.heap.push { cls:=.type "dict",data:=.dict #[] }) scope.names).get? b=some o:=fun b o e=>fP _ _ b o (d9 _ e)
 have ok:=cellsFrom_ok scope.names (s.heap.push { cls:=.type "dict",data:=.dict #[] }) (s.heap.objs.size+1) [] ⟨fun _ _ hm=>(nomatch hm),uH⟩ (by rw[C5];exact i9 _)
 rw[C5] at ok
 have hns:(ao (s.heap.push { cls:=.type "dict",data:=.dict #[] }) scope.names).Ns s.heap.objs.size (fun _=>none):=(Heap.Ns.new s.heap (.type "dict")).keeps (fP _ _)
 have cells:∀x c,(X.comp scope N s H ex).env.cells.lookup x=some c->(x,c)∈P8 (s.heap.objs.size+1) scope.names [] ∨ X.env.cells.lookup x=some c:=fun x c e=>by
  have e':(P8 (s.heap.objs.size+1) scope.names []++Q6 X.env scope.names []).lookup x=some c:=e
  rcases eP e' with q|⟨_,q⟩
  ·exact .inl (mem_of_lookup q)
  ·rcases gq hcl (mem_of_lookup q) with z|z
   ·cases z
   ·exact .inr z
 have old:∀x c,X.env.cells.lookup x=some c->c+1<=s.heap.objs.size:=fun x c e=>let ⟨v,q⟩:=I.cell x c e;q.lt
 have own:∀x c,(x,c)∈P8 (s.heap.objs.size+1) scope.names []->s.heap.objs.size+1<=c:=fun x c e=>(ok.empty x c e).2
 refine⟨⟨I.ok.mod,hk,I.ok.glob,I.ok.blt,i9 _,fun x y c h1 h2=>?_,fun x h1=>?_,fun x c h1 h2=>?_,I.ok.hd,I.ok.frames,.inl rfl,fun b hb=>⟨?_,fun x c e=>?_⟩,I.bs,j9 I.ok.bsz I.sz,fun b o e hb=>?_,fun b hb hb'=>?_,I.stack,I.stkFree⟩,
  rfl,I.bare,Un.kept hkeep,⟨_,hns,fun j x v h1 h2 h3=>?_⟩,fun x c e=>?_,I.hok.fresh (i9 _),fun x c e=>?_,fun p hp=>absurd (show p∈([]:List (Addr × Obj)) from hp) (by simp),I.hok.kept hkeep,?_⟩
 ·rcases cells x c h1 with q1|q1 <;> rcases cells y c h2 with q2|q2
  ·exact name_of_addr ok.apart q1 q2
  ·exact absurd (j9 (own _ _ q1) (j9 (V5 _) (old _ _ q2))) (Co _)
  ·exact absurd (j9 (own _ _ q2) (j9 (V5 _) (old _ _ q1))) (Co _)
  ·exact I.ok.inj x y c q1 q2
 ·have h1':scope.names.lookup x=some .cell ∨ scope.names.lookup x=some .free:=tE h1
  rcases h1' with q|q
  ·obtain⟨c,e⟩:=lr (n:=s.heap.objs.size+1) (sc:=scope) q
   exact⟨c,Z2 e⟩
  ·obtain⟨c,e⟩:=dZ (env:=X.env) (acc:=[]) (mem_of_lookup q)
   cases z:(P8 (s.heap.objs.size+1) scope.names []).lookup x with
   | some d=>exact⟨d,Z2 z⟩
   | none =>
    obtain⟨d,e'⟩:=aY e
    exact⟨d,(aN z).trans e'⟩
 ·have h1':scope.names.lookup x=some .cell:=beq_iff_eq.mp h1
  obtain⟨d,e⟩:=lr (n:=s.heap.objs.size+1) (sc:=scope) h1'
  have e':(P8 (s.heap.objs.size+1) scope.names []++Q6 X.env scope.names []).lookup x=some c:=h2
  rw[Z2 e] at e'
  cases e'
  exact j9 (V5 _) (own _ _ (mem_of_lookup e))
 ·exact m9 (hex b hb).2.2.2.2.2
 ·rcases cells x c e with q|q
  ·exact B7 (y9 (hex b hb).2.2.2.2.2 (j9 (V5 _) (own _ _ q)))
  ·exact(hex b hb).2.2.2.2.1 x c q
 ·rcases (hex b hb).2.2.2.1 with z|z
  ·exact I.ok.noex b o e z
  ·exact absurd (y9 (i5 e) (j9 I.ok.bsz z)) (Q3 _)
 ·rcases List.mem_cons.mp (I.stkSub b hb') with z|z
  ·exact(hex b hb).2.1 z
  ·exact(hex b hb).2.2.1 z
 ·obtain⟨i,e1,e2⟩:=vq h2
  obtain⟨y,f1,f2,f3⟩:=kY hx e1
  have exy:x=y:=by
   have h1':N[j]?=some x:=h1
   rw[f1] at h1';exact(D8 h1').symm
  subst exy
  obtain⟨m,hm,hl⟩:=I.loc
  have kx:=gX hf (mem_of_lookup f3) rfl
  have vis:MV X.env.scope x:=by
   rcases kx with k|k
   ·exact .inr (.inl k)
   ·exact .inr (.inr k)
  obtain⟨u,ru,l⟩:=hl i x v f2 e2 vis
  refine⟨u,ru,.inr ?_⟩
  have hv:(kE scope X.env).names.lookup x=some .cell ∨ (kE scope X.env).names.lookup x=some .free:=by
   unfold kE
   rw[eO,f3,bF]
   split
   ·exact .inl rfl
   ·exact .inr rfl
  refine⟨hv,?_⟩
  rcases l with ⟨k,_⟩|⟨k,c,ec,z⟩
  ·have k':X.env.kindOf x=some .local:=k
   rcases kx with q|q <;> rw[q] at k' <;> cases k'
  ·obtain⟨d,ed⟩:=dZ (env:=X.env) (acc:=[]) (mem_of_lookup f3)
   have nocell:(P8 (s.heap.objs.size+1) scope.names []).lookup x=none ∨ ∃d,(P8 (s.heap.objs.size+1) scope.names []).lookup x=some d:=by
    cases (P8 (s.heap.objs.size+1) scope.names []).lookup x with
    | none=>exact .inl rfl
    | some d=>exact .inr ⟨d,rfl⟩
   rcases nocell with q|⟨d',q⟩
   ·obtain⟨d2,ed2⟩:=aY ed
    have hd2:X.env.cells.lookup x=some d2:=by
     rcases gq hcl (mem_of_lookup ed2) with z|z
     ·cases z
     ·exact z
    rw[ec] at hd2
    cases hd2
    exact⟨c,(aN q).trans ed2,z.keeps hkeep⟩
   ·-- a name is not both free and a cell of the block
    exfalso
    rcases hJ (mem_of_lookup q) with z|z
    ·cases z
    ·have z':=da hnm z
     rw[f3] at z'
     cases z'
 ·rcases cells x c e with q|q
  ·exact⟨none,(ok.empty x c q).1⟩
  ·obtain⟨v,z⟩:=I.cell x c q
   exact⟨v,z.keeps hkeep⟩
 ·rcases cells x c e with q|q
  ·exact I.hok.fresh (j9 (V5 _) (own x c q))
  ·exact I.freeC x c q
 ·show (aA ix σ).length=N.length
  unfold aA
  rw[d8]
  exact kX hx
end
section
variable {prog:i8}{w:t9}{A:y7}{R:eW->f6->Prop}{s:f6}
theorem uf {elt target iter:Expr}{ifs:List Expr}{scope:M8}{pos:Pos}{it acc:b9}{env:Env} (I:Nat->f6->Prop)
  (turn:∀n s,I n s->j6 (r0 prog w) A (Y4 it) (fun r s₁=>match r with
   | none=>R (.ok .next) s₁
   | some v=>j6 (r0 prog w) A (aL target it v) (fun _ s₁'=>j6 (r0 prog w) A (dI target env v) (fun _ s₂ =>
     j6 (r0 prog w) A (forIn ifs true fun c r=>if r=true then do let ok <- GC c env (eval c env);pure (bh ok) else pure (bh r)) (fun ok s₃ =>
      if ok=true then j6 (r0 prog w) A (eval elt env) (fun x s₄ =>
       j6 (r0 prog w) A (call (.builtin "list.append") [acc,x]) (fun _ s₅=>∃m,m<n/\I m s₅) (fun _ _=>False) s₄) (fun _ _=>False) s₃
      else ∃m,m<n/\I m s₃) (fun _ _=>False) s₂) (fun _ _=>False) s₁') (fun _ _=>False) s₁) (fun _ _=>False) s)
  (n:Nat) (h:I n s):
  U8 (r0 prog w) A (.compLoop (.ListComp elt [⟨target,iter,ifs,0⟩] scope pos) 0 it acc env) R s:=by
 refine GD rfl I (fun n s hI=>?_) n h
 show j6 _ A ((compTurn (.ListComp elt [⟨target,iter,ifs,0⟩] scope pos) 0 it acc env).onRaise (fun x=>do dh x env;wO x)) _ _ s
 refine JI ?_
 rw[compTurn_list]
 refine b7 (aO (b7 (B5 (turn n s hI) (fun r s₁ h₁=>?_) fun _ _ h'=>h'.elim)))
 cases r with
 | none=>exact g0 h₁
 | some v =>
  refine b7 (B5 h₁ (fun _ s₁' h₁'=>?_) fun _ _ h'=>h'.elim)
  refine b7 (B5 h₁' (fun _ s₂ h₂=>b7 (B5 h₂ (fun ok s₃ h₃=>?_) fun _ _ h'=>h'.elim)) fun _ _ h'=>h'.elim)
  cases ok with
  | false=>exact g0 ⟨rfl,h₃⟩
  | true =>
   exact b7 (b7 (B5 h₃ (fun x s₄ h₄=>b7 (B5 h₄ (fun _ s₅ h₅=>g0 (g0 ⟨rfl,h₅⟩)) fun _ _ h'=>h'.elim)) fun _ _ h'=>h'.elim))
end
def Wk (σ σ2:St):Prop:=σ.length=σ2.length/\∀(i:Nat) v,σ[i]?=some (some v)->σ2[i]?=some (some v)
theorem Wk.set {σ:St}{i:Nat}{v:V} (h:σ[i]?=some none ∨ σ[i]?=none):Wk σ (σ.set i (some v)):=by
 refine⟨by simp,fun j u e=>?_⟩
 by_cases hj:j=i
 ·subst hj
  rcases h with h|h <;> rw[h] at e <;> cases e
 ·rw[N6 (E8 hj)]
  exact e
section
variable {X:Cx}{pins:List (Addr × Obj)}{σ:St}{H H':Hp}{s s':f6}{scope:M8}{N:List Str}{ix:List (Option Nat)}{fp:List Addr}
noncomputable abbrev M0 (s:f6):f6:={ s with heap:=s.heap.push { cls:=.type "list",dict:=none,data:=.seq ([]:List b9).toArray } }
theorem Y2 (s:f6):(M0 s).heap.objs.size=s.heap.objs.size+1:=C5 ..
theorem C0.comp_end {pins':List (Addr × Obj)}{σ':St}{ys:List V}{its:List b9}{n:Nat}{h':Heap} (I:C0 X pins σ H s) (J:C0 (X.comp scope N (M0 s) H (s.heap.objs.size::fp)) pins' σ' H' s') (hfp:∀b∈fp,eR X pins H b)
  (hD:H' s.heap.objs.size=none) (hl:s'.heap.get? s.heap.objs.size=some { cls:=.type "list",data:=.seq its.toArray n }) (hv:G6 ys its) (hz:ys.length<=i7)
  (hs:E7 (M0 s).heap.objs.size s'.heap h'):C0 X pins σ (A6 H' s.heap.objs.size (.lst ys)) { s' with heap:=h' }:=by
 have oldC:∀b,b<s.heap.objs.size->b≠(M0 s).heap.objs.size:=fun b hb=>by rw[Y2];exact m9 (K3 hb)
 have DC:s.heap.objs.size≠(M0 s).heap.objs.size:=by rw[Y2];exact m9 (J3 _)
 have pushed:∀b o,s.heap.get? b=some o->(M0 s).heap.get? b=some o:=fun b o e=>d9 _ e
 have nex:∀b o,s.heap.get? b=some o->b ∉ fp->b ∉ (X.comp scope N (M0 s) H (s.heap.objs.size::fp)).ex:=fun b o e hb z=>by
  rcases List.mem_cons.mp (show b∈s.heap.objs.size::fp from z) with z|z
  ·rw[z] at e;exact absurd (i5 e) (Q3 _)
  ·exact hb z
 have U:=J.base
 have un:Un (dz X.stack) fp H (A6 H' s.heap.objs.size (.lst ys)) s.heap h':=by
  refine⟨fun b o e n hb hx=>?_,fun b o e n hb hx=>?_,fun b o e n hx=>?_,fun b o e hx=>?_,fun b xs e=>?_,fun b o u e=>?_,fun b ps e=>?_⟩
  ·exact(hs.2 b (oldC b (i5 e))).trans (U.keep b o (pushed b o e) n hb (nex b o e hx))
  ·obtain⟨sl,q⟩:=U.slot b o (pushed b o e) n hb (nex b o e hx)
   exact⟨sl,(hs.2 b (oldC b (i5 e))).trans q⟩
  ·rw[v9 (m9 (i5 e))]
   exact U.free b o (pushed b o e) n (nex b o e hx)
  ·obtain⟨o',q⟩:=U.there b o (pushed b o e) (nex b o e hx)
   exact⟨o',(hs.2 b (oldC b (i5 e))).trans q⟩
  ·have q:=U.tups b xs e
   rw[v9 (u9 q hD)];exact q
  ·have q:=U.frzs b o u e
   rw[v9 (u9 q hD)];exact q
  ·obtain⟨m,q⟩:=U.tbls b ps e
   exact⟨m,by rw[v9 (u9 q hD)];exact q⟩
 have hC:H' (M0 s).heap.objs.size=none:=J.free
 have hok:bU X.prog X.w (A6 H' s.heap.objs.size (.lst ys)) h':=fun b u e=>by
  by_cases hb:b=s.heap.objs.size
  ·subst hb
   rw[j0] at e;cases e
   exact⟨hz,its,n,hv,(hs.2 _ DC).trans hl⟩
  ·rw[v9 hb] at e
   refine (J.hok b u e).stay (fun c v hc q=>(hs.2 c ?_).trans q) (fun c q=>by rw[v9 (u9 q hD)];exact q) fun c xs q=>by rw[v9 (u9 q hD)];exact q
   rintro rfl
   rcases hc with z|z
   ·rw[<- z,hC] at e;cases e
   ·rw[hC] at z;cases z
 exact I.call' (s':={ s' with heap:=h' }) (ch:=fp) J.os un hok J.bare fun b hb=>⟨(hfp b hb).2.2.2.1,(hfp b hb).2.1,(hfp b hb).2.2.2.2.1,(hfp b hb).2.2.2.2.2⟩
end
section
variable {X:Cx}{scope:M8}{N:List Str}{ix:List (Option Nat)}{elt target iter:Expr}{ifs:List Expr}{pos:Pos}{wi:TI}{g:TG}{te:TE}{tc:TT}
noncomputable def yN (X:Cx) (ifs:List Expr) (t:TT):Prop :=
 ∀(pins:List (Addr × Obj)) (s:f6) (σ:St) (H:Hp) (Q:Bool->Hp->Prop),C0 X pins σ H s->t σ H Q ->
  j6 (r0 X.prog X.w) X.A (forIn ifs true fun c r=>if r=true then do let ok <- GC c X.env (eval c X.env);pure (bh ok) else pure (bh r)) (TP X pins σ Q) X.xe s
def T5:TT:=fun _ H Q=>Q true H
theorem L8:yN X [] T5:=fun _ _ _ H _ I h=>wpAny_tests_nil ⟨H,I,h⟩
theorem DY {c:Expr} (h:PT X c tc):yN X [c] tc:=fun pins s σ H Q I hq=>wpAny_tests_one (h pins s σ H Q I hq)
def BN (J:It) (σ0:St) (g:TG) (tc:TT) (te:TE) (H1:Hp) (F:List V->Hp->Prop):Prop:=∃W:Nat->Nat->List V->Hp->Prop,(∃m,W 0 m [] H1)/\∀i m ys H2,W i m ys H2->ys.length<=i7 /\
 ((J.stop i H2/\F ys H2) ∨
  (J.go i H2/\∃(Ny:V->Hp->Prop) (Nn:Hp->Prop),(∀y H,Ny y H->∃m',m'<m/\W (i+1) m' (ys++[y]) H)/\(∀H,Nn H->∃m',m'<m/\W (i+1) m' ys H) /\
    ∀x H3,J.yld i H2 x H3->g x σ0 H3 fun σ2 H4=>Wk σ0 σ2/\tc σ2 H4 fun b H5=>if b=true then te σ2 H5 Ny else Nn H5))
theorem vV {pins:List (Addr × Obj)}{σ:St}{H:Hp}{s:f6}{it:Addr}{fp:List Addr}{tn:Nat->Heap->Prop}{J:It}{F:List V->Hp->Prop}{E:b9->f6->Prop}{RR:b9->Addr->eW->f6->Prop}
  (hc:X.calm=true) (hk:scope.kind=.function) (hnm:dQ scope=true) (hf:Y1 scope X.env=true) (hx:eZ scope X.N N ix=true)
  (hg:∀s H ex,PG (X.comp scope N s H ex) target g) (ht:∀s H ex,yN (X.comp scope N s H ex) ifs tc) (he:PE (X.comp scope N (M0 s) H (s.heap.objs.size::fp)) elt te)
  (I:C0 X pins σ H s) (T:nE X.prog X.w X.K target J fp it tn) (st:tn 0 s.heap) (hfp:∀b∈fp,eR X pins H b) (B:BN J (aA ix σ) g tc te H F)
  (fin:∀(ys:List V) (H':Hp) (s':f6) (σ':St) (its:List b9) (n:Nat),C0 (X.comp scope N (M0 s) H (s.heap.objs.size::fp)) [] σ' H' s'->H' s.heap.objs.size=none ->
   s'.heap.get? s.heap.objs.size=some { cls:=.type "list",data:=.seq its.toArray n }->G6 ys its->ys.length<=i7->F ys H'->RR (.ref s.heap.objs.size) (M0 s).heap.objs.size (.ok .next) s'):
  j6 (r0 X.prog X.w) X.A (GA []) (fun acc s₃=>j6 (r0 X.prog X.w) X.A (ir scope X.env.globals (Q6 X.env scope.names []) [] X.env.qual none .none (some X.env)) (fun cenv s₄ =>
   U8 (r0 X.prog X.w) X.A (.compStart (.ListComp elt [⟨target,iter,ifs,0⟩] scope pos) 0 (.ref it) acc { cenv with scope:=kE scope X.env }) (RR acc cenv.locals) s₄) E s₃) E s:=by
 refine E6 (iX ?_) (by show ([]:List b9).toArray.size<=i7;exact A7 _)
 obtain⟨W,⟨m0,w0⟩,turn⟩:=B
 have I1:C0 X pins σ H (M0 s):=I.kept (t':=s.toks) fun b o e=>d9 _ e
 have fpLt:∀b∈fp,b<s.heap.objs.size:=fun b hb=>let ⟨o,e,_⟩:=T.obj 0 _ st b hb;i5 e
 have accE:(M0 s).heap.get? s.heap.objs.size=some { cls:=.type "list",dict:=none,data:=.seq ([]:List b9).toArray }:=j8 _ rfl
 have fD:eR X pins H s.heap.objs.size:=I.fpOk (i9 _) (I.hok.fresh (i9 _))
 have J0:C0 (X.comp scope N (M0 s) H (s.heap.objs.size::fp)) [] (aA ix σ) H _:=I1.comp (N:=N) (ix:=ix) (ex:=s.heap.objs.size::fp) hk hnm hf hx fun b hb=>by
  rcases List.mem_cons.mp hb with z|z
  ·subst z
   exact⟨fD.1,fD.2.1,fD.2.2.1,fD.2.2.2.1,fD.2.2.2.2.1,by rw[Y2];exact J3 _⟩
  ·obtain⟨f0,f1,f2,f3,f4,_⟩:=hfp b z
   exact⟨f0,f1,f2,f3,f4,by rw[Y2];exact K3 (fpLt b z)⟩
 have keep0:∀b o,(M0 s).heap.get? b=some o->(ao ((M0 s).heap.push { cls:=.type "dict",data:=.dict #[] }) scope.names).get? b=some o:=fun b o e=>fP _ _ b o (d9 _ e)
 have st0:tn 0 (ao ((M0 s).heap.push { cls:=.type "dict",data:=.dict #[] }) scope.names):=T.keep 0 _ _ st fun b hb o e=>keep0 b o (d9 _ e)
 have exOk:∀b∈s.heap.objs.size::fp,b≠(X.comp scope N (M0 s) H (s.heap.objs.size::fp)).env.locals/\b ∉ (X.comp scope N (M0 s) H (s.heap.objs.size::fp)).fs /\
   ∀x c,(X.comp scope N (M0 s) H (s.heap.objs.size::fp)).env.cells.lookup x=some c->c≠b:=fun b hb=>⟨(J0.ok.exf b hb).1,J0.ok.exfs b hb,(J0.ok.exf b hb).2⟩
 have stat:∀{H':Hp}{o:Obj},(∀b∈fp,H' b=none)->∀b∈fp,eR (X.comp scope N (M0 s) H (s.heap.objs.size::fp)) [(s.heap.objs.size,o)] H' b:=fun {H' o} hn b hb=>by
  obtain⟨e1,e2,e3⟩:=exOk b (i4 _ hb)
  refine⟨hn b hb,e1,e2,.inl (i4 _ hb),e3,fun p hp=>?_⟩
  have hp':p∈[(s.heap.objs.size,o)]:=(List.mem_append.mp hp).elim (fun z=>absurd (show p∈([]:List (Addr × Obj)) from z) (by simp)) id
  rw[List.mem_singleton.mp hp']
  exact B7 (fpLt b hb)
 have loop:U8 (r0 X.prog X.w) X.A (.compLoop (.ListComp elt [⟨target,iter,ifs,0⟩] scope pos) 0 (.ref it) (.ref s.heap.objs.size) (X.comp scope N (M0 s) H (s.heap.objs.size::fp)).env) (RR (.ref s.heap.objs.size) (M0 s).heap.objs.size)
   { M0 s with heap:=ao ((M0 s).heap.push { cls:=.type "dict",data:=.dict #[] }) scope.names }:=by
  refine uf (fun n s'=>∃i ys its k H',C0 (X.comp scope N (M0 s) H (s.heap.objs.size::fp)) [] (aA ix σ) H' s'/\tn i s'.heap/\(∀b∈fp,H' b=none)/\H' s.heap.objs.size=none /\
   s'.heap.get? s.heap.objs.size=some { cls:=.type "list",data:=.seq (its:List b9).toArray k }/\G6 ys its/\W i n ys H') ?_ m0
   ⟨0,[],[],0,H,J0,st0,fun b hb=>(hfp b hb).1,fD.1,keep0 _ _ accE,.nil,w0⟩
  rintro n s3 ⟨i,ys,its,k,H3,I3,st3,fr3,d3,l3,v3,w3⟩
  obtain⟨hz,hw⟩:=turn i n ys H3 w3
  have pinD:C0 (X.comp scope N (M0 s) H (s.heap.objs.size::fp)) [(s.heap.objs.size,{ cls:=.type "list",data:=.seq its.toArray k })] (aA ix σ) H3 s3:=I3.pins_of fun p hp=>by
   rw[List.mem_singleton.mp hp]
   exact⟨l3,d3,(exOk _ f9).1,(exOk _ f9).2.1,fun v z=>by cases z⟩
  rcases hw with ⟨stop,fy⟩|⟨go,Ny,Nn,hNy,hNn,step⟩
  ·refine P1 (T.done (X.comp scope N (M0 s) H (s.heap.objs.size::fp)) rfl rfl rfl hc i _ s3 (aA ix σ) H3 (fun _ _=>False) pinD (stat fr3) st3 stop) fun r s4 ⟨hr,I4⟩=>?_
   subst hr
   have q:=(I4.pin (s.heap.objs.size,_) (n5 _ f9)).1
   exact fin ys H3 s4 _ its k (I4.pins_of fun p hp=>by cases hp) d3 q v3 hz fy
  ·refine P1 (T.item (X.comp scope N (M0 s) H (s.heap.objs.size::fp)) rfl rfl rfl hc i _ s3 (aA ix σ) H3 (fun _ _=>False) pinD (stat fr3) st3 go) fun r s4 ⟨u,hr,h4⟩=>?_
   subst hr
   refine P1 h4 fun _ s5 ⟨x,H5,I5,r5,y5,st5,fr5⟩=>?_
   have I5':=I5.pinned (stat fr5) (T.obj _ _ st5)
   refine P1 (hg (M0 s) H (s.heap.objs.size::fp) _ s5 (aA ix σ) H5 x u _ I5' r5 (step x H5 y5)) fun _ s6 ⟨σ6,H6,I6,wk6,q6⟩=>?_
   refine P1 (ht (M0 s) H (s.heap.objs.size::fp) _ s6 σ6 H6 _ I6 q6) fun ok s7 ⟨H7,I7,q7⟩=>?_
   cases ok with
   | false =>
    obtain⟨m',hm,w7⟩:=hNn H7 q7
    refine⟨m',hm,i+1,ys,its,k,H7,(I7.weak wk6.1 wk6.2).pins_of (fun p hp=>by cases hp),?_,fun b hb=>?_,?_,?_,v3,w7⟩
    ·exact T.keep _ _ _ st5 fun b hb o e=>(I7.pin (b,o) (n5 _ (n5 _ (S5 hb e)))).1
    ·obtain⟨o,e,d⟩:=T.obj _ _ st5 b hb
     exact(I7.pin (b,o) (n5 _ (n5 _ (S5 hb e)))).2.1
    ·exact(I7.pin (s.heap.objs.size,_) (n5 _ (P5 _ f9))).2.1
    ·exact(I7.pin (s.heap.objs.size,_) (n5 _ (P5 _ f9))).1
   | true =>
    show j6 _ _ _ _ _ _
    refine P1 (he _ s7 σ6 H7 _ I7 q7) fun yv s8 ⟨y,H8,I8,r8,q8'⟩=>?_
    obtain⟨m',hm,w8⟩:=hNy y H8 q8'
    have q8:=I8.pin (s.heap.objs.size,_) (n5 _ (P5 _ f9))
    refine Gc (l:=s.heap.objs.size) (items:=its.toArray) ⟨k,q8.1⟩ (fun h' hl' sb=>?_) (by rw[A0,<- v3.length];exact hz)
    obtain⟨k',hl'⟩:=hl'
    have I9:C0 (X.comp scope N (M0 s) H (s.heap.objs.size::fp)) [] (aA ix σ) H8 { s8 with heap:=h' }:=((I8.weak wk6.1 wk6.2).pins_of (pins':=[]) (fun p hp=>by cases hp)).turned (t':=s8.toks) (it:=s.heap.objs.size)
     (fun b o hb e=>(sb.2 b hb).trans e) q8.2.1 (exOk _ f9).1 (.inl f9) (exOk _ f9).2.2 (fun p hp=>absurd (show p∈([]:List (Addr × Obj)) from hp) (by simp))
    refine⟨m',hm,i+1,ys++[y],its++[yv],k',H8,I9,?_,fun b hb=>?_,q8.2.1,?_,v3.append (.cons r8 .nil),w8⟩
    ·refine T.keep _ _ _ st5 fun b hb o e=>(sb.2 b (m9 (fpLt b hb))).trans (I8.pin (b,o) (n5 _ (n5 _ (S5 hb e)))).1
    ·obtain⟨o,e,d⟩:=T.obj _ _ st5 b hb
     exact(I8.pin (b,o) (n5 _ (n5 _ (S5 hb e)))).2.1
    ·have e:its.toArray.push yv=(its++[yv]).toArray:=by simp
     rw[<- e];exact hl'
 exact GF loop (T.self _ 0 _ _ _ st0 loop)
theorem O1 (hc:X.calm=true) (hi:PI X target iter wi) (hg:∀s H ex,PG (X.comp scope N s H ex) target g) (ht:∀s H ex,yN (X.comp scope N s H ex) ifs tc) (he:∀s H ex,PE (X.comp scope N s H ex) elt te)
  (hk:scope.kind=.function) (hnm:dQ scope=true) (hf:Y1 scope X.env=true) (hx:eZ scope X.N N ix=true) (hs:∀x,dE iter X.env x=pure x):
  PE X (.ListComp elt [⟨target,iter,ifs,0⟩] scope pos) (fun σ H Q=>wi σ H fun J H1=>BN J (aA ix σ) g tc te H1 fun ys H2=>∀p,H2 p=none->Q (.ref p) (A6 H2 p (.lst ys))):=by
 intro pins s σ H Q I h
 rw[eval_ListComp]
 refine cx (use:=none) rfl hs (aZ (I.closed hf)) hk (fun x hx hl=>(da hnm hx).trans (by rw[hl])) ?_
 refine P1 (hi pins s σ H _ I h) fun v s1 h1=>P1 h1 fun itv s2 h2=>?_
 obtain⟨it,fp,tn,J,H2,e,I2,T,st2,f2,B⟩:=h2
 subst e
 refine vV (RR:=fun acc C=>Ao (r0 X.prog X.w) X.A X.xe none (EP X pins σ Q) acc C) hc hk hnm hf hx hg ht (he _ _ _) I2 T st2 f2 B ?_
 intro ys H' s' σ' its n J' hD hl hv hz hF
 obtain⟨m,hm,_⟩:=J'.loc
 exact⟨m,hm,fun h' hs'=>⟨.ref s2.heap.objs.size,_,I2.comp_end J' f2 hD hl hv hz hs',rfl,hF _ hD⟩⟩
theorem iQ {i:Nat}{y:Str}{py spos:Pos} (hc:X.calm=true) (hN:X.N.Nodup) (hn:X.N[i]?=some y) (hy:X.env.scope.names.lookup y=some .local)
  (hi:PI X target iter wi) (hg:∀s H ex,PG (X.comp scope N s H ex) target g) (ht:∀s H ex,yN (X.comp scope N s H ex) ifs tc) (he:∀s H ex,PE (X.comp scope N s H ex) elt te)
  (hk:scope.kind=.function) (hnm:dQ scope=true) (hf:Y1 scope X.env=true) (hx:eZ scope X.N N ix=true) (hs:∀x,dE iter X.env x=pure x)
  (hsw:jH (.ListComp elt [⟨target,iter,ifs,0⟩] scope pos) (some (.Name y py)) spos.line X.env=pure true):
  PS X (.Assign [.Name y py] (.ListComp elt [⟨target,iter,ifs,0⟩] scope pos) spos) (fun D σ H=>wi σ H fun J H1=>BN J (aA ix σ) g tc te H1 fun ys H2=>∀p,H2 p=none->D.nx (σ.set i (some (.ref p))) (A6 H2 p (.lst ys))):=by
 intro pins s σ H D I h
 rw[exec_Assign_Name_used _ _ _ _ hsw]
 refine b7 (aO (b7 ?_))
 show j6 _ X.A (do let _ <- comprehension (.ListComp elt [⟨target,iter,ifs,0⟩] scope pos) scope X.env _ (GA []) false (eval iter X.env) (some (dI (.Name y py) X.env))) _ _ s
 refine b7 (P1 (cx (use:=some (dI (.Name y py) X.env)) (Q:=fun _ s'=>SP X pins D .next s') rfl hs (aZ (I.closed hf)) hk (fun x hx hl=>(da hnm hx).trans (by rw[hl])) ?_) fun _ s' hq=>g0 (g0 hq))
 refine P1 (hi pins s σ H _ I h) fun v s1 h1=>P1 h1 fun itv s2 h2=>?_
 obtain⟨it,fp,tn,J,H2,e,I2,T,st2,f2,B⟩:=h2
 subst e
 refine vV (RR:=fun acc C=>Ao (r0 X.prog X.w) X.A X.xe (some (dI (.Name y py) X.env)) (fun _ s'=>SP X pins D .next s') acc C) hc hk hnm hf hx hg ht (he _ _ _) I2 T st2 f2 B ?_
 intro ys H' s' σ' its n J' hD hl hv hz hF
 obtain⟨m,hm,_⟩:=J'.loc
 have I3:=I2.comp_end (h':=s'.heap) J' f2 hD hl hv hz (.refl ..)
 show j6 _ X.A (dI (.Name y py) X.env (.ref s2.heap.objs.size)) _ _ _
 refine Pc (rg (v:=.ref s2.heap.objs.size) I3 hN hn (.inl hy) rfl (fun s'' I4 hsb=>?_) (.inr hy))
 obtain⟨a,sb,ha⟩:=hsb
 have hCa:(M0 s2).heap.objs.size≠a:=by
  rw[Y2]
  rcases ha with z|z
  ·rw[z];exact B7 (K3 I2.lt)
  ·obtain⟨v,q⟩:=I2.cell y a z
   exact B7 (K3 q.lt)
 have hC2:(A6 H' s2.heap.objs.size (.lst ys)) (M0 s2).heap.objs.size=none:=by
  rw[v9 (by rw[Y2];exact B7 (J3 _))]
  exact J'.free
 refine⟨m,hm.sameBut sb hCa,fun h' hs'=>?_⟩
 refine⟨_,_,?_,hF _ hD⟩
 obtain⟨m2,n2,_⟩:=id I4.loc
 refine I4.turned (t':=s''.toks) (it:=(M0 s2).heap.objs.size) (fun b o hb e=>(hs'.2 b hb).trans e) hC2 ?_ ?_ ?_ ?_
 ·rw[Y2];exact B7 (K3 I2.lt)
 ·rw[Y2];exact .inr (j9 I2.sz (V5 _))
 ·intro x c e
  obtain⟨v,q⟩:=I2.cell x c e
  rw[Y2];exact m9 (K3 q.lt)
 ·intro p hp
  rw[Y2];exact m9 (K3 (i5 (I2.pin p hp).1))
end
section
variable {X:Cx}{pins:List (Addr × Obj)}{σ:St}{H:Hp}{s:f6}{p:Addr}{xs:List V}
variable {A:y7}
theorem oH {E:b9->f6->Prop}{Q:b9->f6->Prop} (I:C0 X pins σ H s) (hh:A.handled=none) (hs:fM X.K H p xs ∨ fC X.K H p xs)
  (h:∀(its:List b9) (it:Addr) (fp wr:List Addr) (St:Nat->Heap->Prop) (h2:Heap),G6 xs its->Walks X.prog X.w A it fp wr its.length (fun i v=>its[i]?=some v) St->St 0 h2->(∀b∈fp,b<h2.objs.size) ->
   (∀h':Heap,(∀b o,b ∉ wr->h2.get? b=some o->h'.get? b=some o)->∀b o,s.heap.get? b=some o->h'.get? b=some o)->Q (.ref it) { s with heap:=h2 }):
  j6 (r0 X.prog X.w) A (qv (.ref p)) Q E s:=by
 have keep:∀(o:Obj) (h':Heap),(∀b u,b ∉ [s.heap.objs.size]->(s.heap.push o).get? b=some u->h'.get? b=some u)->∀b u,s.heap.get? b=some u->h'.get? b=some u:=fun o h' hk b u e =>
  hk b u (fun hm=>by rw[List.mem_singleton.mp hm] at e;exact Q3 _ (i5 e)) (d9 _ e)
 rcases hs with hs|hs
 ·obtain⟨its,rv,pl,hz⟩:=I.list hs
  have hlt:p<s.heap.objs.size:=by obtain⟨_,e,_⟩:=pl.isList;exact i5 e
  refine jf pl.isList ?_
  have W:=PF (prog:=X.prog) (w:=X.w) (A:=A) hh s.heap.objs.size p (m9 hlt) its.toArray
  refine h its s.heap.objs.size [s.heap.objs.size,p] [s.heap.objs.size] (fun i h=>h.IsListIter s.heap.objs.size p i/\h.IsList p its.toArray) _ rv (by simpa using W) ⟨⟨_,j8 _ rfl,rfl,rfl⟩,pl.isList.push _⟩ (fun b hb=>?_) (keep _)
  rw[C5]
  rcases List.mem_cons.mp hb with rfl|hb
  ·exact J3 _
  ·rw[List.mem_singleton.mp hb];exact K3 hlt
 ·obtain⟨its,rv,pl,hz⟩:=I.tuple hs
  have pl':s.heap.IsTuple p its.toArray:=pl
  have hlt:p<s.heap.objs.size:=pl.lt
  refine aC pl' ?_
  have W:=Walks.tuple (prog:=X.prog) (w:=X.w) (A:=A) hh s.heap.objs.size p (m9 hlt) its.toArray
  refine h its s.heap.objs.size [s.heap.objs.size,p] [s.heap.objs.size] (fun i h=>h.IsTupleIter s.heap.objs.size p i/\h.IsTuple p its.toArray) _ rv (by simpa using W) ⟨⟨_,j8 _ rfl,rfl,rfl⟩,pl'.push _⟩ (fun b hb=>?_) (keep _)
  rw[C5]
  rcases List.mem_cons.mp hb with rfl|hb
  ·exact J3 _
  ·rw[List.mem_singleton.mp hb];exact K3 hlt
def uK (ns:List Int) (i:Nat):Int:=(ns[i]?).getD 0
theorem oX (ns:List Int):∀k,preSum (uK ns) k=(ns.take k).sum
 | 0=>by simp[preSum]
 | k+1=>by
  rw[preSum,oX ns k,D1,List.sum_append]
  unfold uK
  cases ns[k]? <;> simp
theorem oj {ns:List Int}{its:List b9} (r:G6 (ns.map V.int) its) {i:Nat}{v:b9} (e:its[i]?=some v):∃t,v=.int (uK ns i) t:=by
 have hl:=r.length
 rw[d8] at hl
 have hi:i<ns.length:=by rw[hl];exact(List.getElem?_eq_some_iff.mp e).1
 obtain⟨u,hu,ru⟩:=r.get (i:=i) (x:=.int ns[i]) (by rw[v8,i6 hi];rfl)
 rw[e] at hu;cases hu
 obtain⟨t,rfl⟩:=ru
 exact⟨t,by unfold uK;rw[i6 hi];rfl⟩
theorem bS (hc:X.calm=true):bB X (.builtin "sum") (fun xs H Q=>∃(p:Addr) (ns:List Int),xs=[.ref p]/\(fM X.K H p (ns.map V.int) ∨ fC X.K H p (ns.map V.int))/\Q (.int ns.sum) H):=by
 intro pins s σ H xs us Q I r h
 obtain⟨p,ns,rfl,hs,q⟩:=h
 obtain⟨u,rfl,ru⟩:=iG r
 cases ru
 refine call_sum_walkG (oH (A:=X.A.in1) I (I.ok.hd hc) hs fun its it fp wr St h2 rv W st hfp keep=>?_)
 refine⟨it,fp,wr,its.length,_,St,uK ns,rfl,W,st,hfp,fun i v e=>oj rv e,fun h' tk t' hk=>?_⟩
 have e:preSum (uK ns) its.length=ns.sum:=by
  rw[oX,<- rv.length,d8,N9]
 rw[e]
 exact⟨.int ns.sum,H,I.kept (keep h' hk),⟨_,rfl⟩,q⟩
noncomputable def xl:V->Bool
 | .bl b=>b
 | .int i=>i != 0
 | .non=>false
 | _=>true
noncomputable def EE:V->Bool
 | .bl _=>true
 | .int _=>true
 | .non=>true
 | _=>false
theorem GM {E:b9->f6->Prop}{x:V}{v:b9}{s:f6}{Q:Bool->f6->Prop} (r:G9 x v) (ok:EE x=true) (h:Q (xl x) s):j6 (r0 X.prog X.w) A (truthy v) Q E s:=by
 cases x with
 | bl b=>cases r;exact R0 h
 | int i=>obtain⟨t,rfl⟩:=r;exact PyProof.Rows.truthy_int h
 | non=>cases r;exact PyProof.Rows.truthy_none h
 | _=>exact absurd (show false=true from ok) u7
noncomputable def AG (d:Bool) (xs:List V) (i:Nat):Bool:=((xs[i]?).map xl).getD d
theorem IP (xs:List V):(O5 xs.length).all (AG true xs)=xs.all xl:=by
 rw[eU,qm,qm]
 constructor
 ·intro h b hb
  obtain⟨i,hi,e⟩:=Cq hb
  have:=h i (List.mem_range.mpr hi)
  unfold AG at this
  rw[i6 hi,e] at this
  exact this
 ·intro h i hi
  have hi':=List.mem_range.mp hi
  unfold AG
  rw[i6 hi']
  exact h _ (O0 hi')
theorem vc {its:List b9} (d:Bool) (rv:G6 xs its) (ok:xs.all EE=true):TruthOf X.prog X.w A (fun i v=>its[i]?=some v) (AG d xs):=by
 intro i v s Q E e hQ
 have hi:i<xs.length:=by rw[rv.length];exact(List.getElem?_eq_some_iff.mp e).1
 obtain⟨u,hu,ru⟩:=rv.get (i:=i) (x:=xs[i]) (by rw[i6 hi])
 rw[e] at hu;cases hu
 refine GM (X:=X) ru (List.all_eq_true.mp ok _ (O0 hi)) ?_
 unfold AG at hQ
 rw[i6 hi] at hQ
 exact hQ
theorem hZ (hc:X.calm=true):bB X (.builtin "all") (fun xs H Q=>∃(p:Addr) (ys:List V),xs=[.ref p]/\(fM X.K H p ys ∨ fC X.K H p ys)/\ys.all EE=true/\Q (.bl (ys.all xl)) H):=by
 intro pins s σ H xs us Q I r h
 obtain⟨p,ys,rfl,hs,ok,q⟩:=h
 obtain⟨u,rfl,ru⟩:=iG r
 cases ru
 refine call_all_walk (oH (A:=X.A.in1) I (I.ok.hd hc) hs fun its it fp wr St h2 rv W st hfp keep=>?_)
 refine⟨it,fp,wr,its.length,_,St,AG true ys,rfl,W,st,vc true rv ok,fun h' tk hk=>?_⟩
 rw[<- rv.length,IP]
 exact⟨.bl _,H,I.kept (keep h' hk),rfl,q⟩
theorem lu (hc:X.calm=true):bB X (.builtin "max") (fun xs H Q=>∃(p:Addr) (ns:List Int),xs=[.ref p]/\(fM X.K H p (ns.map V.int) ∨ fC X.K H p (ns.map V.int))/\ns≠[]/\∀m,m∈ns->(∀n∈ns,n<=m)->Q (.int m) H):=by
 intro pins s σ H xs us Q I r h
 obtain⟨p,ns,rfl,hs,hne,q⟩:=h
 obtain⟨u,rfl,ru⟩:=iG r
 cases ru
 refine call_max_walk (oH (A:=X.A.in1) I (I.ok.hd hc) hs fun its it fp wr St h2 rv W st hfp keep=>?_)
 have hl:its.length=ns.length:=by rw[<- rv.length,d8]
 have hp:0<ns.length:=List.length_pos_iff.mpr hne
 refine⟨it,fp,wr,its.length,_,St,_,rfl,W,st,hfp,by rw[hl];exact hp,CmpOf.ints_gt (uK ns) (fun i v e=>oj rv e),fun v h' tk e hk=>?_⟩
 obtain⟨t,rfl⟩:=oj rv e
 obtain⟨a1,a2⟩:=argBest_gt (uK ns) (its.length - 1)
 have hb:argBest (fun i j=>decide (uK ns i > uK ns j)) (its.length - 1)<ns.length:=by lia
 have e1:uK ns (argBest (fun i j=>decide (uK ns i > uK ns j)) (its.length - 1))∈ns:=by
  generalize hg:argBest (fun i j=>decide (uK ns i > uK ns j)) (its.length - 1)=k at hb
  unfold uK
  rw[i6 hb]
  exact O0 hb
 refine⟨.int _,H,I.kept (keep h' hk),⟨_,rfl⟩,q _ e1 fun n hn=>?_⟩
 obtain⟨j,hj,rfl⟩:=Cq hn
 have:=a2 j (by lia)
 have e2:uK ns j=ns[j]:=by unfold uK;rw[i6 hj];rfl
 rw[e2] at this
 exact this
end
section
variable {prog:i8}{w:t9}{A:y7}{E:b9->f6->Prop}{s:f6}
theorem pA {it t:Addr}{i:Nat}{its:Array b9}{x:b9}{Q:b9->f6->Prop} (hit:s.heap.IsTupleIter it t i) (ht:s.heap.IsTuple t its) (hx:its[i]?=some x)
  (hQ:∀h',h'.IsTupleIter it t (i+1)->E7 it s.heap h'->Q x { s with heap:=h' }):j6 (r0 prog w) A (G2 (.ref it)) Q E s:=by
 obtain⟨o,ho,hc,hd⟩:=id hit
 obtain⟨ol,hol,_,nl,hdl⟩:=ht
 unfold G2
 refine b7 (J1 (name:=M5 "__next__") hit.typeIs bt
  (J7 bt hit.typeIs wJ ?_ (uY _)))
 show j6 _ _ (qk (.ref it) 0 >>= _) _ _ s
 refine b7 (C4 ho hd (x:=.ref t) rfl ?_)
 show j6 _ _ (if (n9 t == A3)=true then _ else _) _ _ s
 rw[if_neg (show ¬ ((n9 t == A3)=true) from u7)]
 show j6 _ _ (qk (.ref it) 1 >>= _) _ _ s
 refine b7 (C4 ho hd (x:=.int i 0) rfl ?_)
 show j6 _ _ (seqItems? (.ref t) >>= _) _ _ s
 refine b7 (bC hol hdl ?_)
 simp only[Q4,hx]
 refine b7 (T7 ho hd (by simp) (g0 ⟨x,rfl,g0 (hQ _ ?_ (X2 ..))⟩))
 exact⟨_,J8 _ ho (X1 (N7 hd _)),(oh ..).trans hc,by
  rw[N7 hd];simp[P0]⟩
end
section
variable {prog:i8}{w:t9}{A:y7}{E:b9->f6->Prop}{s:f6}
variable {it:Addr}{i:Nat}{its:Array b9}{Q:b9->f6->Prop}
theorem rB {t:Addr}(hh:A.handled=none) (hit:s.heap.IsTupleIter it t i) (ht:s.heap.IsTuple t its) (hx:its[i]?=none)
  (hE:∀h' e,gE it s.heap h'->(∃o,h'.get? e=some o/\o.cls=.type "StopIteration")->E (.ref e) { s with heap:=h' }):j6 (r0 prog w) A (G2 (.ref it)) Q E s:=by
 obtain⟨o,ho,hc,hd⟩:=id hit
 obtain⟨ol,hol,_,nl,hdl⟩:=ht
 unfold G2
 refine b7 (J1 (name:=M5 "__next__") hit.typeIs bt
  (J7 bt hit.typeIs wJ ?_ (uY _)))
 show j6 _ _ (qk (.ref it) 0 >>= _) _ _ s
 refine b7 (C4 ho hd (x:=.ref t) rfl ?_)
 show j6 _ _ (if (n9 t == A3)=true then _ else _) _ _ s
 rw[if_neg (show ¬ ((n9 t == A3)=true) from u7)]
 show j6 _ _ (qk (.ref it) 1 >>= _) _ _ s
 refine b7 (C4 ho hd (x:=.int i 0) rfl ?_)
 show j6 _ _ (seqItems? (.ref t) >>= _) _ _ s
 refine b7 (bC hol hdl ?_)
 simp only[Q4,hx]
 refine b7 (kC (b7 (T7 ho hd (by simp) ?_)))
 show j6 _ _ (GB (.type "StopIteration") [] >>= _) _ _ _
 refine b7 ?_
 simp only[GB,JM]
 refine b7 (E6 ?_ (by size_fits))
 refine b7 (m:=dG _ _) (wB (a:=A3) (by first|rfl | (simp only[dG];rfl)) ?_)
 refine E6 ?_ (by size_fits)
 simp only[raiseNew]
 refine b7 (Ce ?_)
 first|rw[show A.in1.handled=none from hh]|rw[hh]
 exact b7 (g0 (wA (hE _ _ (((X2 ..).extBut.push _).push _) ⟨_,j8 _ rfl,rfl⟩)))
noncomputable def Gr:Bool->j7->Hp->Addr->List V->Prop
 | false=>fC
 | true=>fM
noncomputable def uM:Bool->Heap->Addr->Array b9->Prop
 | false=>Pm
 | true=>Heap.IsList
noncomputable def wM:Bool->Heap->Addr->Addr->Nat->Prop
 | false=>Heap.IsTupleIter
 | true=>Heap.IsListIter
noncomputable def itN:Bool->String
 | false=>"tuple_iterator"
 | true=>"list_iterator"
noncomputable abbrev NQ (p:Bool) (t:Addr):Obj:={ cls:=.type (itN p),data:=.fields #[.ref t,.int 0 0] }
variable {h:Heap}{a:Addr}
theorem _root_.PySem.Heap.IsList.at' {h':Heap}{items:Array b9} (x:h.IsList a items) (e:∀o,h.get? a=some o->h'.get? a=some o):h'.IsList a items:=let ⟨o,ho,r⟩:=x;⟨o,e _ ho,r⟩
theorem uM.at {p:Bool}{h h':Heap}{a:Addr}{xs:Array b9} (x:uM p h a xs) (e:∀o,h.get? a=some o->h'.get? a=some o):uM p h' a xs:=by
 cases p
 ·exact Heap.IsTuple.at x e
 ·exact Heap.IsList.at' x e
variable {p:Bool}{xs:Array b9}
theorem uM.lt (x:uM p h a xs):a<h.objs.size:=by
 cases p <;> exact let ⟨_,ho,_⟩:=x;i5 ho
theorem wM.at {p:Bool}{h h':Heap}{a t:Addr}{k:Nat} (x:wM p h a t k) (e:∀o,h.get? a=some o->h'.get? a=some o):wM p h' a t k:=by
 cases p
 ·exact Heap.IsTupleIter.at x e
 ·exact Heap.IsListIter.at x e
theorem wM.ob {t:Addr}{k:Nat} (x:wM p h a t k):∃o,h.get? a=some o/\o.data=.fields #[.ref t,.int k 0]:=by
 cases p <;> exact let ⟨o,ho,_,hd⟩:=x;⟨o,ho,hd⟩
theorem wM.new {t:Addr} (e:h.get? a=some (NQ p t)):wM p h a t 0:=by
 cases p <;> exact⟨_,e,rfl,rfl⟩
theorem pB {t:Addr}{x:b9}(hit:wM p s.heap it t i) (ht:uM p s.heap t its) (hx:its[i]?=some x)
  (hQ:∀h',wM p h' it t (i+1)->E7 it s.heap h'->Q x { s with heap:=h' }):j6 (r0 prog w) A (G2 (.ref it)) Q E s:=by
 cases p
 ·exact pA hit ht hx hQ
 ·exact wpAny_nextOf_list_item hit ht hx hQ
theorem Bb {t:Addr}(hh:A.handled=none) (hit:wM p s.heap it t i) (ht:uM p s.heap t its) (hx:its[i]?=none)
  (hE:∀h' e,gE it s.heap h'->(∃o,h'.get? e=some o/\o.cls=.type "StopIteration")->E (.ref e) { s with heap:=h' }):j6 (r0 prog w) A (G2 (.ref it)) Q E s:=by
 cases p
 ·exact rB hh hit ht hx hE
 ·exact wpAny_nextOf_list_end hh hit ht hx hE
theorem Jt {t:Addr}(ht:uM p s.heap t xs) (h:Q (.ref s.heap.objs.size) { s with heap:=s.heap.push (NQ p t) }):j6 (r0 prog w) A (qv (.ref t)) Q E s:=by
 cases p
 ·exact aC ht h
 ·exact jf ht h
structure BL (p q:Bool) (h:Heap) (z TI TO i1 i2 t1 t2:Addr) (k:Nat):Prop where
 zz:AC h z TI TO .none
 ti:qA h TI (.ref i1) (.ref i2)
 tO:∃a b,qA h TO a b
 it1:wM p h i1 t1 k
 it2:wM q h i2 t2 k
structure yL (z TI TO i1 i2 t1 t2:Addr):Prop where
 a1:TI≠z
 a2:TO≠z
 a3:i1≠z
 a4:i2≠z
 b1:TI≠TO
 b2:TI≠i1
 b3:TI≠i2
 c1:TO≠i1
 c2:TO≠i2
 d1:i1≠i2
 e1:t1≠z
 e2:t1≠TO
 e3:t1≠i1
 e4:t1≠i2
 f1:t2≠z
 f2:t2≠TO
 f3:t2≠i1
 f4:t2≠i2
variable {n:Nat}
theorem fK {a b:Nat} (h:a≠b):n+a≠n+b:=by lia
theorem mQ {a t:Nat} (h:t<n):t≠n+a:=by lia
theorem yL.new {t1 t2:Nat} (h1:t1<n) (h2:t2<n):yL (n+4) (n+2) (n+3) n (n+1) t1 t2 where
 a1:=fK (by decide)
 a2:=fK (by decide)
 a3:=fK (n:=n) (a:=0) (by decide)
 a4:=fK (by decide)
 b1:=fK (by decide)
 b2:=fK (n:=n) (b:=0) (by decide)
 b3:=fK (by decide)
 c1:=fK (n:=n) (b:=0) (by decide)
 c2:=fK (by decide)
 d1:=fK (n:=n) (a:=0) (by decide)
 e1:=mQ h1
 e2:=mQ h1
 e3:=mQ (a:=0) h1
 e4:=mQ h1
 f1:=mQ h2
 f2:=mQ h2
 f3:=mQ (a:=0) h2
 f4:=mQ h2
variable {q:Bool}{t1 t2:Addr}
theorem AD {z TI TO i1 i2:Addr}{ys:Array b9}{k:Nat}{x y:b9}{Q:Option b9->f6->Prop} (D:yL z TI TO i1 i2 t1 t2) (Z:BL p q s.heap z TI TO i1 i2 t1 t2 k) (hl1:uM p s.heap t1 xs) (hl2:uM q s.heap t2 ys)
  (hx:xs[k]?=some x) (hy:ys[k]?=some y)
  (hQ:∀h',AC h' z TI TO (P0 s.heap.objs.size)->qA h' TO x y->wM p h' i1 t1 (k+1)->wM q h' i2 t2 (k+1)->qA h' s.heap.objs.size x y->h'.objs.size=s.heap.objs.size+1 ->
   (∀c o,c ∉ [z,TO,i1,i2]->s.heap.get? c=some o->h'.get? c=some o)->Q (some (.ref s.heap.objs.size)) { s with heap:=h' }):
  j6 (r0 prog w) A (Y4 (.ref z)) Q E s:=by
 obtain⟨hz,hTI,⟨a,b,hTO⟩,h1,h2⟩:=Z
 have hT:s.TypeIs (.ref z) "zip":=⟨_,hz,rfl⟩
 unfold Y4
 refine b7 (W2 (J1 (name:=M5 "__next__") hT kA (J7 kA hT Nt ?_ (MN _))))
 show j6 _ _ (qk (.ref z) 2 >>= _) _ _ _
 refine b7 (C4 hz rfl (x:=.bool false) rfl ?_)
 show j6 _ _ (qk (.ref z) 3 >>= _) _ _ _
 refine b7 (C4 hz rfl (x:=.ref TI) rfl (b7 (bC hTI rfl ?_)))
 show j6 _ _ (J5 (.ref z) >>= _) _ _ _
 refine b7 ?_
 unfold J5
 refine b7 (C4 hz rfl (x:=.none) rfl (g0 ?_))
 simp only[if_true]
 refine b7 (kC (b7 (C4 hz rfl (x:=.ref TO) rfl (b7 (D5 hz (by simp) fun g1 z1 s1=>?_)))))
 replace z1:AC g1 z TI TO .ellipsis:=z1
 refine b7 ?_
 simp only[Ja,JP,eT,cK]
 refine b7 (b7 (qi ?_))
 show j6 _ _ (G2 (.ref i1) >>= _) _ _ _
 refine b7 (pB (h1.at fun o e=>s1.extBut _ o D.a3 e) (hl1.at fun o e=>s1.extBut _ o D.e1 e) hx fun g2 j1 s2=>g0 ?_)
 have o2:qA g2 TO a b:=s2.extBut _ _ D.c1 (s1.extBut _ _ D.a2 hTO)
 refine b7 (bC o2 rfl (b7 (JH o2 fun g3 o3 s3=>?_)))
 replace o3:qA g3 TO x b:=o3
 refine b7 (wC (g0 (b7 (b7 (qi ?_)))))
 show j6 _ _ (G2 (.ref i2) >>= _) _ _ _
 refine b7 (pB (h2.at fun o e=>s3.extBut _ o D.c2.symm (s2.extBut _ o D.d1.symm (s1.extBut _ o D.a4 e))) (hl2.at fun o e=>s3.extBut _ o D.f2 (s2.extBut _ o D.f3 (s1.extBut _ o D.f1 e))) hy fun g4 j2 s4=>g0 ?_)
 have o4:qA g4 TO x b:=s4.extBut _ _ D.c2 o3
 refine b7 (bC o4 rfl (b7 (JH o4 fun g5 o5 s5=>?_)))
 replace o5:qA g5 TO x y:=o5
 refine b7 (wC (g0 (g0 ?_)))
 refine b7 (bC o5 rfl (b7 (il ?_)))
 have hsz:g5.objs.size=s.heap.objs.size:=by rw[s5.1,s4.1,s3.1,s2.1,s1.1]
 have z5:AC g5 z TI TO .ellipsis:=s5.extBut _ _ D.a2.symm (s4.extBut _ _ D.a4.symm (s3.extBut _ _ D.a2.symm (s2.extBut _ _ D.a3.symm z1)))
 have k5:∀c o,c ∉ [z,TO,i1,i2]->s.heap.get? c=some o->g5.get? c=some o:=fun c o hc e=>by
  simp only[C3,B6,or_false,not_or] at hc
  exact s5.extBut _ _ hc.2.1 (s4.extBut _ _ hc.2.2.2 (s3.extBut _ _ hc.2.1 (s2.extBut _ _ hc.2.2.1 (s1.extBut _ _ hc.1 e))))
 have m1:wM p g5 i1 t1 (k+1):=j1.at fun o e=>s5.extBut _ o D.c1.symm (s4.extBut _ o D.d1 (s3.extBut _ o D.c1.symm e))
 have m2:wM q g5 i2 t2 (k+1):=j2.at fun o e=>s5.extBut _ o D.c2.symm e
 show j6 _ _ (Q9 (.ref z) (.ref g5.objs.size) >>= _) _ _ _
 refine b7 ?_
 unfold Q9
 have z6:AC (g5.push { cls:=.type "tuple",data:=.seq #[x,y] }) z TI TO .ellipsis:=d9 _ z5
 refine b7 (D5 z6 (by simp) fun g7 z7 s7=>?_)
 replace z7:AC g7 z TI TO (P0 g5.objs.size):=z7
 refine D5 z7 (by simp) fun g8 z8 s8=>?_
 replace z8:AC g8 z TI TO (P0 g5.objs.size):=z8
 have up:∀c o,c≠z->g5.get? c=some o->g8.get? c=some o:=fun c o hc e=>s8.extBut _ _ hc (s7.extBut _ _ hc (d9 _ e))
 have new8:qA g8 g5.objs.size x y:=s8.extBut _ _ (B7 (i5 z5)) (s7.extBut _ _ (B7 (i5 z5)) (j8 _ rfl))
 have size8:g8.objs.size=g5.objs.size+1:=by rw[s8.1,s7.1,C5]
 rw[hsz] at z8 new8 size8
 refine g0 ⟨_,rfl,g0 ?_⟩
 show Q (some (.ref g5.objs.size)) _
 rw[hsz]
 exact hQ g8 z8 (up _ _ D.a2 o5) (m1.at fun o e=>up _ o D.a3 e) (m2.at fun o e=>up _ o D.a4 e) new8 size8 fun c o hc e=>up c o (fun q=>hc (by simp[q])) (k5 c o hc e)
theorem CB {z TI TO i1 i2:Addr}{k:Nat}{Q:Option b9->f6->Prop} (hh:A.handled=none) (D:yL z TI TO i1 i2 t1 t2) (Z:BL p q s.heap z TI TO i1 i2 t1 t2 k) (hl1:uM p s.heap t1 xs)
  (hx:xs[k]?=none) (hQ:∀h',(∀c o,c ∉ [z,TO,i1,i2]->s.heap.get? c=some o->h'.get? c=some o)->Q none { s with heap:=h' }):j6 (r0 prog w) A (Y4 (.ref z)) Q E s:=by
 obtain⟨hz,hTI,⟨a,b,hTO⟩,h1,h2⟩:=Z
 have hT:s.TypeIs (.ref z) "zip":=⟨_,hz,rfl⟩
 unfold Y4
 refine b7 (W2 (J1 (name:=M5 "__next__") hT kA (J7 kA hT Nt ?_ (MN _))))
 show j6 _ _ (qk (.ref z) 2 >>= _) _ _ _
 refine b7 (C4 hz rfl (x:=.bool false) rfl ?_)
 show j6 _ _ (qk (.ref z) 3 >>= _) _ _ _
 refine b7 (C4 hz rfl (x:=.ref TI) rfl (b7 (bC hTI rfl ?_)))
 show j6 _ _ (J5 (.ref z) >>= _) _ _ _
 refine b7 ?_
 unfold J5
 refine b7 (C4 hz rfl (x:=.none) rfl (g0 ?_))
 simp only[if_true]
 refine b7 (kC (b7 (C4 hz rfl (x:=.ref TO) rfl (b7 (D5 hz (by simp) fun g1 z1 s1=>?_)))))
 replace z1:AC g1 z TI TO .ellipsis:=z1
 refine b7 ?_
 simp only[Ja,JP,eT,cK]
 refine b7 (b7 (qi ?_))
 show j6 _ _ (G2 (.ref i1) >>= _) _ _ _
 refine b7 (Bb hh (h1.at fun o e=>s1.extBut _ o D.a3 e) (hl1.at fun o e=>s1.extBut _ o D.e1 e) hx fun g2 e s2 he=>?_)
 obtain⟨oe,hoe,hce⟩:=he
 have z2:AC g2 z TI TO .ellipsis:=s2 _ _ D.a3.symm z1
 have hez:e≠z:=fun q=>by subst q;rw[z2] at hoe;cases hoe;simp at hce
 refine D5 z2 (by simp) fun g3 _ s3=>?_
 refine b7 (jG (T:="StopIteration") (b:=true) ⟨oe,s3.extBut _ _ hez hoe,hce⟩ ni (g0 (hQ g3 fun c o hc q=>?_)))
 simp only[C3,B6,or_false,not_or] at hc
 exact s3.extBut _ _ hc.1 (s2 _ _ hc.2.2.1 (s1.extBut _ _ hc.1 q))
noncomputable abbrev NA (t:Addr):Obj:={ cls:=.type "tuple_iterator",data:=.fields #[.ref t,.int 0 0] }
abbrev tpr (a b:b9):Obj:={ cls:=.type "tuple",data:=.seq #[a,b] }
noncomputable abbrev zob (a b:Addr):Obj:={ cls:=.type "zip",data:=.fields #[.none,.bool false,.bool false,.ref a,.ref b] }
noncomputable abbrev Jd (p q:Bool) (h:Heap) (t1 t2:Addr):Heap:=((((h.push (NQ p t1)).push (NQ q t2)).push (tpr (.ref h.objs.size) (.ref (h.objs.size+1)))).push (tpr .none .none)).push (zob (h.objs.size+2) (h.objs.size+3))
theorem CA (p q:Bool) (t1 t2:Addr) (xs ys:Array b9):
  Meets (gF.«zip.__new__» ⟨[.type "zip",.ref t1,.ref t2],[]⟩) (fun _ R s=>uM p s.heap t1 xs/\uM q s.heap t2 ys/\R (.ok (.ret (.ref (s.heap.objs.size+4)))) { s with heap:=Jd p q s.heap t1 t2 }):=
 .of_wp fun prog w A R s h=>by
  obtain⟨hp,g,d,tk,os⟩:=s;obtain⟨hl1,hl2,h⟩:=h
  have hsub:=sub_zip
  have hL1:uM p (yT ⟨hp,g,d,tk,os⟩) t1 xs:=hl1
  have hL2:uM q (yT ⟨hp.push (NQ p t1),g,d,tk,os⟩) t2 ys:=hl2.at fun o e=>d9 _ e
  wp_walk using Jt hL1,Jt hL2
  simp only[C5]
  exact⟨_,rfl,h⟩
theorem BC {ys:Array b9}(hl1:uM p s.heap t1 xs) (hl2:uM q s.heap t2 ys)
  (h:∀h',BL p q h' (s.heap.objs.size+4) (s.heap.objs.size+2) (s.heap.objs.size+3) s.heap.objs.size (s.heap.objs.size+1) t1 t2 0->(∀c o,s.heap.get? c=some o->h'.get? c=some o)->h'.objs.size=s.heap.objs.size+5 ->
   Q (.ref (s.heap.objs.size+4)) { s with heap:=h' }):j6 (r0 prog w) A (call (.type "zip") [.ref t1,.ref t2]) Q E s:=by
 refine callType_new F.called_zip (by decide) (F.typeCall_zip_2 _ _) (F.newCall_zip_2 _ _) (fun obj=>F.args_object_init_3 obj _ _) F.entry_zip_new (CA p q t1 t2 xs ys) ⟨hl1,hl2,?_⟩
 have up:∀{b:Addr}{o:Obj} (h0:Heap) (x:Obj),h0.get? b=some o->(h0.push x).get? b=some o:=fun _ _ e=>d9 _ e
 have here:∀(h0:Heap) (x:Obj) (n:Nat),x.isFreed=false->h0.objs.size=n->(h0.push x).get? n=some x:=fun h0 x n hf e=>by subst e;exact j8 _ hf
 have Z:BL p q (Jd p q s.heap t1 t2) (s.heap.objs.size+4) (s.heap.objs.size+2) (s.heap.objs.size+3) s.heap.objs.size (s.heap.objs.size+1) t1 t2 0 :=
  ⟨here _ _ _ rfl (by simp only[C5]),up _ _ (up _ _ (here _ _ _ rfl (by simp only[C5]))),⟨_,_,up _ _ (here _ _ _ rfl (by simp only[C5]))⟩,
   .new (up _ _ (up _ _ (up _ _ (up _ _ (here _ _ _ rfl rfl))))),.new (up _ _ (up _ _ (up _ _ (here _ _ _ rfl (by simp only[C5])))))⟩
 exact⟨⟨_,Z.zz,rfl⟩,h _ Z (fun c o e=>up _ _ (up _ _ (up _ _ (up _ _ (up _ _ e))))) (by simp only[C5])⟩
end
section
variable {X:Cx}{pins:List (Addr × Obj)}{σ:St}{H:Hp}{s:f6}
theorem C0.turnedL {h':Heap}{t':Nat}{ch:List Addr} (I:C0 X pins σ H s) (k:∀b o,b ∉ ch->s.heap.get? b=some o->h'.get? b=some o) (hf:∀b∈ch,eR X pins H b):C0 X pins σ H { s with heap:=h',toks:=t' }:=by
 have nit:∀b u,H b=some u->b ∉ ch:=fun b u e z=>by rw[(hf b z).1] at e;cases e
 refine I.step (g':=s.gens) (d':=s.drawn) (ch:=ch) (fun b hb=>⟨(hf b hb).2.2.2.1,(hf b hb).2.1,(hf b hb).2.2.2.2.1,(hf b hb).2.2.2.2.2⟩) (fun b o _ _ hc e _=>k b o hc e) (fun b o _ _ hc e _=>⟨o.slots,k b o hc e⟩) (fun _ _ _ _ n=>n)
  (fun b o hc e=>⟨o,k b o hc e⟩) (fun _ _ e=>e) (fun _ _ _ e=>e) (fun b ps e=>⟨#[],by rw[e];simp⟩) (fun m hm=>?_) (fun b u e=>?_) I.bare
 ·obtain⟨o,es,ep,ho,r⟩:=hm
  exact⟨o,es,ep,k _ o (fun z=>(hf _ z).2.1 rfl) ho,r⟩
 ·refine (I.hok b u e).stay (fun c v hc q=>k c v ?_ q) (fun _ q=>q) fun _ _ q=>q
  rcases hc with z|z
  ·rw[z];exact nit b u e
  ·exact nit c _ z
variable {p:Bool}{a:Addr}{xs:List V}
theorem C0.sqB (I:C0 X pins σ H s) (h:Gr p X.K H a xs):∃its:List b9,G6 xs its/\uM p s.heap a its.toArray:=by
 cases p
 ·exact let ⟨its,r,e,_⟩:=I.tuple h;⟨its,r,e⟩
 ·exact let ⟨its,r,e,_⟩:=I.list h;⟨its,r,e.isList⟩
theorem C0.sqB_inj {ys:List V} (I:C0 X pins σ H s) (h:Gr p X.K H a xs) (h':Gr p X.K H a ys):xs=ys:=by
 cases p
 ·exact I.tuple_inj h h'
 ·exact I.list_inj h h'
noncomputable def ItzB (p q:Bool) (K:j7) (a b:Addr):It :=
 ⟨fun i H=>∃xs ys x y,Gr p K H a xs/\Gr q K H b ys/\xs[i]?=some x/\ys[i]?=some y,fun i H v H'=>∃r x y,H r=none/\v=.ref r/\H'=A6 H r (.tup [x,y])/\(∀xs,Gr p K H a xs->xs[i]?=some x)/\∀ys,Gr q K H b ys->ys[i]?=some y,
  fun i H=>∃xs,Gr p K H a xs/\xs.length<=i⟩
variable {es:List Expr}{kk:Nat}
theorem qZ {q:Bool}{P:i8}{w:t9}{K:j7}{pos:Pos}{b z TI TO i1 i2:Addr} (D:yL z TI TO i1 i2 a b):
  nE P w K (.Tuple es kk pos) (ItzB p q K a b) [z,TI,TO,i1,i2] z (fun i h=>BL p q h z TI TO i1 i2 a b i) where
 mem:=by simp
 obj:=fun i h st c hc=>by
  obtain⟨hz,hTI,⟨_,_,hTO⟩,h1,h2⟩:=st
  obtain⟨_,h1,d1⟩:=h1.ob
  obtain⟨_,h2,d2⟩:=h2.ob
  simp only[C3,B6,or_false] at hc
  rcases hc with rfl|rfl|rfl|rfl|rfl
  ·exact⟨_,hz,fun v q=>by cases q⟩
  ·exact⟨_,hTI,fun v q=>by cases q⟩
  ·exact⟨_,hTO,fun v q=>by cases q⟩
  ·exact⟨_,h1,fun v q=>by rw[d1] at q;cases q⟩
  ·exact⟨_,h2,fun v q=>by rw[d2] at q;cases q⟩
 keep:=fun i h h' st k=>by
  obtain⟨hz,hTI,⟨_,_,hTO⟩,h1,h2⟩:=st
  exact⟨k _ (by simp) _ hz,k _ (by simp) _ hTI,⟨_,_,k _ (by simp) _ hTO⟩,h1.at fun o e=>k _ (by simp) o e,h2.at fun o e=>k _ (by simp) o e⟩
 item:=by
  intro X hP hw hK hc i pins s σ H E I hf st hg
  subst hP hw hK
  obtain⟨xs,ys,x,y,ha,hb,hx,hy⟩:=hg
  obtain⟨its,r1,p1⟩:=I.sqB ha
  obtain⟨its2,r2,p2⟩:=I.sqB hb
  obtain⟨u,hu,ru⟩:=r1.get hx
  obtain⟨v,hv,rv⟩:=r2.get hy
  refine AD D st p1 p2 (x:=u) (y:=v) (by simpa using hu) (by simpa using hv) fun h' z1 o1 j1 j2 new sz keep=>?_
  refine⟨_,rfl,wpAny_letOwnedTupleGo_zip (s:={ s with heap:=h' }) z1 fun h2 z2 sb=>?_⟩
  have hn:H s.heap.objs.size=none:=I.hok.fresh (i9 _)
  have zlt:z<s.heap.objs.size:=i5 st.zz
  have k2:∀c o,c ∉ [z,TI,TO,i1,i2]->s.heap.get? c=some o->h2.get? c=some o:=fun c o hc e=>by
   simp only[C3,B6,or_false,not_or] at hc
   exact sb.extBut _ _ hc.1 (keep c o (by simp only[C3,B6,or_false,not_or];exact⟨hc.1,hc.2.2.1,hc.2.2.2.1,hc.2.2.2.2⟩) e)
  have e0:h2.get? s.heap.objs.size=some { cls:=.type "tuple",data:=.seq #[u,v] }:=sb.extBut _ _ (B7 zlt) new
  have pne:∀c o,s.heap.get? c=some o->c≠s.heap.objs.size:=fun c o e=>m9 (i5 e)
  have nit:∀c u,H c=some u->c ∉ [z,TI,TO,i1,i2]:=fun c u e q=>by rw[(hf c q).1] at e;cases e
  have hok:bU X.prog X.w (A6 H s.heap.objs.size (.tup [x,y])) h2:=fun c ob e=>by
   by_cases hq:c=s.heap.objs.size
   ·subst hq
    rw[j0] at e;cases e
    exact⟨by show 2<=i7;decide,[u,v],.cons ru (.cons rv .nil),⟨_,e0,rfl,_,rfl⟩⟩
   ·rw[v9 hq] at e
    refine (I.hok c ob e).stay (fun d w' hd q=>k2 d w' ?_ q) (fun d q=>by rw[v9 (u9 q hn)];exact q) fun d xs q=>by rw[v9 (u9 q hn)];exact q
    rcases hd with rfl|hd
    ·exact nit d ob e
    ·exact nit d _ hd
  have I2:C0 X pins σ (A6 H s.heap.objs.size (.tup [x,y])) { s with heap:=h2 }:=by
   refine I.step (g':=s.gens) (d':=s.drawn) (t':=s.toks) (ch:=[z,TI,TO,i1,i2]) (fun c hc=>⟨(hf c hc).2.2.2.1,(hf c hc).2.1,(hf c hc).2.2.2.2.1,(hf c hc).2.2.2.2.2⟩) (fun c o _ _ hc e _=>k2 c o hc e) (fun c o _ _ hc e _=>⟨o.slots,k2 c o hc e⟩)
    (fun c o _ e n=>by rw[v9 (pne c o e)];exact n) (fun c o hc e=>⟨o,k2 c o hc e⟩) (fun c xs e=>by rw[v9 (u9 e hn)];exact e) (fun c o u e=>by rw[v9 (u9 e hn)];exact e) (fun c ps e=>⟨#[],by rw[v9 (u9 e hn),e];simp⟩) (fun m hm=>?_) hok I.bare
   obtain⟨o,es,ep,ho,r⟩:=hm
   exact⟨o,es,ep,k2 _ o (fun q=>(hf _ q).2.1 rfl) ho,r⟩
  refine⟨.ref s.heap.objs.size,_,I2,rfl,⟨_,x,y,hn,rfl,rfl,fun xs' h'=>by rw[I.sqB_inj h' ha];exact hx,fun ys' h'=>by rw[I.sqB_inj h' hb];exact hy⟩,?_,fun c hc=>?_⟩
  ·exact⟨z2,sb.extBut _ _ D.a1 (keep _ _ (by simp only[C3,B6,or_false,not_or];exact⟨D.a1,D.b1,D.b2,D.b3⟩) st.ti),⟨_,_,sb.extBut _ _ D.a2 o1⟩,j1.at fun o e=>sb.extBut _ o D.a3 e,j2.at fun o e=>sb.extBut _ o D.a4 e⟩
  ·have hlt:c<s.heap.objs.size:=by
    obtain⟨hz,hTI,⟨_,_,hTO⟩,h1,h2⟩:=st
    obtain⟨_,h1,_⟩:=h1.ob
    obtain⟨_,h2,_⟩:=h2.ob
    simp only[C3,B6,or_false] at hc
    rcases hc with rfl|rfl|rfl|rfl|rfl
    ·exact i5 hz
    ·exact i5 hTI
    ·exact i5 hTO
    ·exact i5 h1
    ·exact i5 h2
   rw[v9 (m9 hlt)]
   exact(hf c hc).1
 done:=by
  intro X hP hw hK hc i pins s σ H E I hf st hg
  subst hP hw hK
  obtain⟨xs,ha,hx⟩:=hg
  obtain⟨its,r1,p1⟩:=I.sqB ha
  have hl:=r1.length
  refine CB (I.ok.hd hc) D st p1 (by simp;lia) fun h' keep=>⟨rfl,I.turnedL (t':=s.toks) (ch:=[z,TI,TO,i1,i2]) (fun c o hc e=>keep c o (fun q=>hc ?_) e) hf⟩
  simp only[C3,B6,or_false] at q ⊢
  rcases q with q|q|q|q
  ·exact .inl q
  ·exact .inr (.inr (.inl q))
  ·exact .inr (.inr (.inr (.inl q)))
  ·exact .inr (.inr (.inr (.inr q)))
 self:=fun _ _ _ _ _ st h=>Py st.zz h
theorem uZ {q:Bool}{R:It->Hp->Prop}{J:It}{pt:Pos}{b:Addr}{ys:List V} (I:C0 X pins σ H s) (hx:Gr p X.K H a xs) (hy:Gr q X.K H b ys)
  (T:∀{z TI TO i1 i2:Addr},yL z TI TO i1 i2 a b->nE X.prog X.w X.K (.Tuple es kk pt) J [z,TI,TO,i1,i2] z (fun i h=>BL p q h z TI TO i1 i2 a b i)) (h:R J H):
  j6 (r0 X.prog X.w) X.A (call (.type "zip") [.ref a,.ref b]) (fun v s1=>j6 (r0 X.prog X.w) X.A (qv v) (OP X pins σ (.Tuple es kk pt) R) X.xe s1) X.xe s:=by
 obtain⟨its,r1,p1⟩:=I.sqB hx
 obtain⟨its2,r2,p2⟩:=I.sqB hy
 refine BC p1 p2 fun h' Z keep sz=>?_
 refine Py (s:={ s with heap:=h' }) Z.zz ?_
 have I2:C0 X pins σ H { s with heap:=h' }:=I.kept (t':=s.toks) keep
 refine⟨s.heap.objs.size+4,[s.heap.objs.size+4,s.heap.objs.size+2,s.heap.objs.size+3,s.heap.objs.size,s.heap.objs.size+1],_,_,H,rfl,I2,T (yL.new p1.lt p2.lt),Z,fun c hc=>?_,h⟩
 have hge:s.heap.objs.size<=c:=by
  simp only[C3,B6,or_false] at hc
  rcases hc with rfl|rfl|rfl|rfl|rfl <;> first|exact M3 _ _|exact i9 _
 exact I.fpOk hge (I.hok.fresh hge)
theorem zB {D:List V->Hp->(It->Hp->Prop)->Prop}{e1 e2:Expr}{pt p pos:Pos}{ta:TA} (hg:Gl X "zip") (hm:X.mg "zip"=none) (ha:PA X [e1,e2] ta)
  (hD:∀{pins s σ H vs R},C0 X pins σ H s->D vs H R->∃a b,vs=[V.ref a,V.ref b]/\j6 (r0 X.prog X.w) X.A (call (.type "zip") [.ref a,.ref b]) (fun v s1=>j6 (r0 X.prog X.w) X.A (qv v) (OP X pins σ (.Tuple es kk pt) R) X.xe s1) X.xe s)
  (hs:A2 [e1,e2] X.env=[(false,eval e1 X.env),(false,eval e2 X.env)]) (hs2:A2 [e2] X.env=[(false,eval e2 X.env)]):
  PI X (.Tuple es kk pt) (.Call (.Name "zip" p) [e1,e2] [] pos) (fun σ H R=>ta σ H fun vs H1=>D vs H1 R):=by
 intro pins s σ H R I h
 refine Call_ (mq I hg hm boot_zip (Z5 (P1 (ha pos pins s σ H _ I h) fun us s1 ⟨vs,H1,I1,r1,q1⟩=>?_) (by rw[hs,hs2]) (by rw[hs2];rfl)))
 obtain⟨a,b,rfl,q⟩:=hD I1 q1
 cases r1 with
 | cons ra rr =>
  cases rr with
  | cons rb rr =>
   cases rr
   cases ra
   cases rb
   exact q
end
section
variable {X:Cx}
noncomputable def Itz (K:j7) (a b:Addr):It :=
 ⟨fun i H=>∃xs ys x y,fC K H a xs/\fC K H b ys/\xs[i]?=some x/\ys[i]?=some y,fun i H v H'=>∃p x y,H p=none/\v=.ref p/\H'=A6 H p (.tup [x,y])/\(∀xs,fC K H a xs->xs[i]?=some x)/\∀ys,fC K H b ys->ys[i]?=some y,
  fun i H=>∃xs,fC K H a xs/\xs.length<=i⟩
def iZip (K:j7) (ta:TA):TI:=fun σ H R=>ta σ H fun vs H1=>∃a b xs ys,vs=[.ref a,.ref b]/\fC K H1 a xs/\fC K H1 b ys/\R (Itz K a b) H1
theorem Le {e1 e2:Expr}{es:List Expr}{kk:Nat}{pt p pos:Pos}{ta:TA} (hg:Gl X "zip") (hm:X.mg "zip"=none) (ha:PA X [e1,e2] ta) (hs:A2 [e1,e2] X.env=[(false,eval e1 X.env),(false,eval e2 X.env)]:=by rfl) (hs2:A2 [e2] X.env=[(false,eval e2 X.env)]:=by rfl):
  PI X (.Tuple es kk pt) (.Call (.Name "zip" p) [e1,e2] [] pos) (iZip X.K ta):=
 zB hg hm ha (fun I ⟨_,_,_,_,e,hx,hy,h⟩=>⟨_,_,e,uZ (p:=false) (q:=false) I hx hy (fun D=>qZ D) h⟩) hs hs2
end
mutual
noncomputable def Dt (st:Addr) (H:Hp):C1->V->Prop
 | .none,v=>v=.non
 | .bool b,v=>v=.bl b
 | .int i,v=>v=.int i
 | .str x,v=>v=.str x
 | .tuple ds,v=>∃a xs,v=.ref a/\a≠st/\H a=some (.tup xs)/\T6 st H ds xs
 | .list ds,v=>∃a xs,v=.ref a/\a≠st/\H a=some (.lst xs)/\T6 st H ds xs
 | .dict _,v=>∃a ks,v=.ref a/\a≠st/\H a=some (.dK ks)
noncomputable def T6 (st:Addr) (H:Hp):List C1->List V->Prop
 | [],xs=>xs=[]
 | d::ds,xs=>∃x r,xs=x::r/\Dt st H d x/\T6 st H ds r
end
def Kp (st:Addr) (H H':Hp):Prop:=∀b o,b≠st->H b=some o->H' b=some o
theorem Kp.refl (st:Addr) (H:Hp):Kp st H H:=fun _ _ _ e=>e
theorem Kp.trans {st:Addr}{H1 H2:Hp} (a:Kp st H H1) (b:Kp st H1 H2):Kp st H H2:=fun c o n e=>b c o n (a c o n e)
theorem n8.kp (a:n8 H H') (st:Addr):Kp st H H':=fun b o _ e=>a b o e
variable {o:HO}
theorem n8.new {p:Addr}(h:H p=none):n8 H (A6 H p o):=fun b u q=>by rw[v9 (u9 q h)];exact q
theorem Kp.new {st:Addr}{H:Hp}{p:Addr}{o:HO} (h:H p=none):Kp st H (A6 H p o):=(n8.new h).kp st
theorem Kp.at {st:Addr}:Kp st H (A6 H st o):=fun b u n q=>by rw[v9 n];exact q
mutual
theorem Dt.kp {st:Addr}{H H':Hp} (k:Kp st H H'):∀{d:C1}{v:V},Dt st H d v->Dt st H' d v
 | .none,_,h=>by unfold Dt at h ⊢;exact h
 | .bool _,_,h=>by unfold Dt at h ⊢;exact h
 | .int _,_,h=>by unfold Dt at h ⊢;exact h
 | .str _,_,h=>by unfold Dt at h ⊢;exact h
 | .tuple ds,_,h=>by
  unfold Dt at h ⊢
  obtain⟨a,xs,e,n,q,r⟩:=h
  exact⟨a,xs,e,n,k a _ n q,T6.kp k r⟩
 | .list ds,_,h=>by
  unfold Dt at h ⊢
  obtain⟨a,xs,e,n,q,r⟩:=h
  exact⟨a,xs,e,n,k a _ n q,T6.kp k r⟩
 | .dict kvs,_,h=>by
  unfold Dt at h ⊢
  obtain⟨a,ks,e,n,q⟩:=h
  exact⟨a,ks,e,n,k a _ n q⟩
theorem T6.kp {st:Addr}{H H':Hp} (k:Kp st H H'):∀{ds:List C1}{xs:List V},T6 st H ds xs->T6 st H' ds xs
 | [],_,h=>by unfold T6 at h ⊢;exact h
 | d::ds,_,h=>by
  unfold T6 at h ⊢
  obtain⟨x,r,e,q1,q2⟩:=h
  exact⟨x,r,e,Dt.kp k q1,T6.kp k q2⟩
end
theorem Dt.int (st:Addr) (H:Hp) (i:Int):Dt st H (.int i) (.int i):=by unfold Dt;rfl
theorem Dt.str (st:Addr) (H:Hp) (x:Str):Dt st H (.str x) (.str x):=by unfold Dt;rfl
theorem Dt.tup {st:Addr}{H:Hp}{a:Addr}{xs:List V}{ds:List C1} (n:a≠st) (h:H a=some (.tup xs)) (r:T6 st H ds xs):Dt st H (.tuple ds) (.ref a):=by unfold Dt;exact⟨a,xs,rfl,n,h,r⟩
theorem T6.nil (st:Addr) (H:Hp):T6 st H [] []:=by unfold T6;rfl
theorem T6.cons {st:Addr}{H:Hp}{d:C1}{ds:List C1}{x:V}{xs:List V} (h:Dt st H d x) (r:T6 st H ds xs):T6 st H (d::ds) (x::xs):=by unfold T6;exact⟨x,xs,rfl,h,r⟩
theorem T6.uncons {st:Addr}{d:C1}{ds:List C1}{xs:List V} (h:T6 st H (d::ds) xs):∃x r,xs=x::r/\Dt st H d x/\T6 st H ds r:=by unfold T6 at h;exact h
theorem T6.len {st:Addr}{H:Hp}:∀{ds:List C1}{xs:List V},T6 st H ds xs->ds.length=xs.length
 | [],_,h=>by unfold T6 at h;subst h;rfl
 | d::ds,_,h=>by
  obtain⟨x,r,e,_,q⟩:=h.uncons
  subst e
  rw[m8,m8,T6.len q]
theorem T6.append {st:Addr}{H:Hp}:∀{ds es:List C1}{xs ys:List V},T6 st H ds xs->T6 st H es ys->T6 st H (ds++es) (xs++ys)
 | [],_,_,_,h,q=>by unfold T6 at h;subst h;exact q
 | d::ds,_,_,_,h,q=>by
  obtain⟨x,r,e,h1,h2⟩:=h.uncons
  subst e
  exact T6.cons h1 (T6.append h2 q)
theorem T6.get {st:Addr}{H:Hp}:∀{ds:List C1}{xs:List V}{i:Nat}{x:V},T6 st H ds xs->xs[i]?=some x->∃d,ds[i]?=some d/\Dt st H d x
 | [],_,i,x,h,e=>by unfold T6 at h;subst h;simp at e
 | d::ds,_,0,x,h,e=>by
  obtain⟨y,r,e1,h1,h2⟩:=h.uncons
  subst e1
  simp at e;subst e
  exact⟨d,rfl,h1⟩
 | d::ds,_,i+1,x,h,e=>by
  obtain⟨y,r,e1,h1,h2⟩:=h.uncons
  subst e1
  obtain⟨d',e2,h3⟩:=T6.get (i:=i) (x:=x) h2 (by simpa using e)
  exact⟨d',by simpa using e2,h3⟩
theorem T6.ints (st:Addr) (H:Hp):∀ns:List Int,T6 st H (ns.map N1) (ns.map V.int)
 | []=>T6.nil st H
 | n::ns=>T6.cons (Dt.int st H n) (T6.ints st H ns)
theorem T6.ints_eq {st:Addr}{H:Hp}:∀{ns:List Int}{xs:List V},T6 st H (ns.map N1) xs->xs=ns.map V.int
 | [],_,h=>by unfold T6 at h;exact h
 | n::ns,_,h=>by
  rw[r9] at h
  obtain⟨x,r,e,h1,h2⟩:=h.uncons
  unfold Dt at h1
  rw[e,h1,T6.ints_eq h2,r9]
abbrev DI (ns:List Int):C1:=.tuple (ns.map .int)
variable {ns:List Int}
theorem Dt.di {st:Addr}{v:V} (h:Dt st H (DI ns) v):∃a,v=.ref a/\a≠st/\H a=some (.tup (ns.map V.int)):=by
 unfold DI Dt at h
 obtain⟨a,xs,e,n,q,r⟩:=h
 exact⟨a,e,n,by rw[q,r.ints_eq]⟩
variable {a:Addr}
theorem Dt.mkI {st:Addr}(n:a≠st) (h:H a=some (.tup (ns.map V.int))):Dt st H (DI ns) (.ref a):=Dt.tup n h (T6.ints st H ns)
mutual
theorem Dt.reads {P:i8}{w:t9}{st:Addr}{H:Hp}{h:Heap} (ok:bU P w H h):∀{d:C1}{v:V}{u:b9},d.canLay0=true->Dt st H d v->G9 v u->∃as,Reads h u d as
 | .none,_,u,_,q,r=>by unfold Dt at q;subst q;cases r;exact⟨[],.none⟩
 | .bool b,_,u,_,q,r=>by unfold Dt at q;subst q;cases r;exact⟨[],.bool b⟩
 | .int i,_,u,_,q,r=>by unfold Dt at q;subst q;obtain⟨t,rfl⟩:=r;exact⟨[],.int i t⟩
 | .str x,_,u,_,q,r=>by unfold Dt at q;subst q;obtain⟨t,rfl⟩:=r;exact⟨[],.str x t⟩
 | .tuple ds,_,u,cl,q,r=>by
  unfold N2 at cl
  unfold Dt at q
  obtain⟨a,xs,e,n,hq,rs⟩:=q
  subst e
  cases r
  obtain⟨_,its,rv,o,ho,hc,m,hd⟩:=ok a _ hq
  obtain⟨as,ra⟩:=T6.reads ok cl rs rv
  exact⟨as,.tuple ho hc hd (by simpa using ra)⟩
 | .list ds,_,u,cl,q,r=>by
  unfold N2 at cl
  unfold Dt at q
  obtain⟨a,xs,e,n,hq,rs⟩:=q
  subst e
  cases r
  obtain⟨_,its,m,rv,ho⟩:=ok a _ hq
  obtain⟨as,ra⟩:=T6.reads ok cl rs rv
  exact⟨a::as,.list ho rfl rfl (by simpa using ra)⟩
 | .dict kvs,_,u,cl,q,r=>by unfold N2 at cl;cases cl
theorem T6.reads {P:i8}{w:t9}{st:Addr}{H:Hp}{h:Heap} (ok:bU P w H h):∀{ds:List C1}{xs:List V}{us:List b9},J2 ds=true->T6 st H ds xs->G6 xs us->∃as,ReadsAll h us ds as
 | [],_,us,_,q,r=>by unfold T6 at q;subst q;cases r;exact⟨[],.nil⟩
 | d::ds,_,us,cl,q,r=>by
  unfold J2 at cl
  rw[w6] at cl
  obtain⟨x,rr,e,h1,h2⟩:=q.uncons
  subst e
  cases r with
  | cons r1 r2 =>
   obtain⟨as,ra⟩:=Dt.reads ok cl.1 h1 r1
   obtain⟨bs,rb⟩:=T6.reads ok cl.2 h2 r2
   exact⟨as++bs,.cons ra rb⟩
end
theorem gM {d:C1} (h:X5 d=true):d.canLay0=true:=by
 unfold X5 at h
 rw[w6] at h
 exact h.1
section
variable {X:Cx}
def Lb:R2:=fun x y H Q=>∃st d e,Dt st H d x/\Dt st H e y/\X5 d=true/\X5 e=true/\Q (.bl (X8 d e)) H
def Ob:R2:=fun x y H Q=>∃st d e,Dt st H d x/\Dt st H e y/\X5 d=true/\X5 e=true/\Q (.bl (!PyData.eqv d e)) H
theorem Ew (hu:X.A.units+64<dj):jE X (M4 .Eq) Lb:=by
 intro pins s σ H x y v u Q I rx ry h
 obtain⟨st,d,e,h1,h2,s1,s2,q⟩:=h
 obtain⟨as,ra⟩:=h1.reads I.hok (gM s1) rx
 obtain⟨bs,rb⟩:=h2.reads I.hok (gM s2) ry
 exact eq_dataH ra rb s1 s2 hu (N4 I q rfl)
theorem Lj (hu:X.A.units+64<dj):jE X (M4 .NotEq) Ob:=by
 intro pins s σ H x y v u Q I rx ry h
 obtain⟨st,d,e,h1,h2,s1,s2,q⟩:=h
 obtain⟨as,ra⟩:=h1.reads I.hok (gM s1) rx
 obtain⟨bs,rb⟩:=h2.reads I.hok (gM s2) ry
 exact ne_dataH ra rb s1 s2 hu (N4 I q rfl)
noncomputable def MP:C1->String
 | .none=>"NoneType"
 | .bool _=>"bool"
 | .int _=>"int"
 | .str _=>"str"
 | .list _=>"list"
 | .tuple _=>"tuple"
 | .dict _=>"dict"
theorem Dt.ty {K:j7}{st:Addr}{H:Hp}{d:C1}{v:V} (h:Dt st H d v):my K H v (.type (MP d)):=by
 cases d with
 | none=>unfold Dt at h;subst h;exact .non
 | bool b=>unfold Dt at h;subst h;exact .bl b
 | int i=>unfold Dt at h;subst h;exact .int i
 | str x=>unfold Dt at h;subst h;exact .str x
 | list ds=>unfold Dt at h;obtain⟨a,xs,e,_,q,_⟩:=h;subst e;exact .lst q
 | tuple ds=>unfold Dt at h;obtain⟨a,xs,e,_,q,_⟩:=h;subst e;exact .tup q
 | dict kvs=>unfold Dt at h;obtain⟨a,ks,e,_,q⟩:=h;subst e;exact .dK q
noncomputable def Il:C1->Bool
 | .bool _=>true
 | _=>false
noncomputable def LR:C1->Bool
 | .bool _=>true
 | .int _=>true
 | _=>false
noncomputable def LQ:C1->Bool
 | .tuple _=>true
 | _=>false
theorem Fh (K:j7) (d:C1):bV K (.type (MP d)) (.type "bool")=some (Il d):=by cases d <;> kernel_rfl
theorem tY (K:j7) (d:C1):bV K (.type (MP d)) (.type "int")=some (LR d):=by cases d <;> kernel_rfl
theorem tX (K:j7) (d:C1):bV K (.type (MP d)) (.type "tuple")=some (LQ d):=by cases d <;> kernel_rfl
theorem df {T:String}{f:C1->Bool} (hk:∀K d,bV K (.type (MP d)) (.type T)=some (f d)):
  bB X (.builtin "isinstance") (fun xs H Q=>∃x st d,xs=[x,.ty T]/\Dt st H d x/\Q (.bl (f d)) H):=by
 intro pins s σ H xs us Q I r h
 obtain⟨x,st,d,rfl,hd,q⟩:=h
 cases r with
 | cons r1 rr =>
  cases rr with
  | cons r2 rr =>
   cases rr
   cases r2
   exact Bm I r1 (hd.ty (K:=X.K)) (hk X.K d) fun tk=>⟨.bl (f d),H,I.tok tk,rfl,q⟩
theorem vt:jE X (dH .FloorDiv) (rI (fun _ j=>0<j/\j.natAbs.log2<9000) fun i j=>.int (i / j)):=MQ fun i j _ _ _ _ _ hc q =>
 floordiv_int (by have:=hc.1;lia) (by rw[uW i (by have:=hc.1;lia)];exact q) (.inl (PyProof.noPylong_of_log2 hc.2))
theorem kU:jE X (dH .Mult) (rI (fun i j=>G3 i<=2 ^ 20/\G3 j<=2 ^ 20) fun i j=>.int (i*j)):=MQ fun _ _ _ _ _ _ _ hc q=>mul_int q (.of_bits hc.1 hc.2)
end
section
variable {prog:i8}{w:t9}{A:y7}{E:b9->f6->Prop}{s:f6}
end
section
variable {X:Cx}
end
structure S6 (P:i8) (w:t9) (K:j7) (mg:Str->Option b9) (base:Heap) (k:Nat) (x:Str) (ps:List Str) (sp:Sp):Prop where
 ex:∃f fd,mg x=some (.ref f)/\Y6 K (.ref f)=true/\bc K fd ps []/\G7 P w K mg base cQ k f fd ps sp
variable {P:i8}{w:t9}{K:j7}{mg:Str->Option b9}{base:Heap}{ps:List Str}{sp:Sp}
theorem S6.up {j k:Nat}(C:S6 P w K mg base j x ps sp) (h:j<=k):S6 P w K mg base k x ps sp :=
 let ⟨f,fd,a,b,c,d⟩:=C.ex;⟨f,fd,a,b,c,d.mono h⟩
def tCb (sp:Sp) (t:TA):TE:=fun σ H Q=>t σ H fun vs H1=>sp vs H1 Q E0
section
variable {X:Cx}{k:Nat}{x:Str}{ps:List Str}{sp:Sp}{p pos:Pos}{e:Expr}{es:List Expr}{t:TA}
theorem B0 (C:S6 X.prog X.w X.K X.mg X.base k x ps sp) (hr:Y9 k X.A) (hg:Gl X x) (ha:PA X (e::es) t)
  (hdb:(x == ("__debug__":Str))=false:=by decide) (he:A2 (e::es) X.env=(false,eval e X.env)::A2 es X.env:=by rfl) (hpl:(V2 pos (A2 es X.env)).any (·.1)=false:=by rfl):
  PE X (.Call (.Name x p) (e::es) [] pos) (tCb sp t):=by
 obtain⟨f,fd,hm,hk,hb,F⟩:=C.ex
 have h:=zF (x:=x) (p:=p) (pos:=pos) F hr hg hm hk hb .nil Er ha hdb he hpl
 have e:CN sp [] E0 t=tCb sp t:=by
  funext σ H Q
  show t σ H (fun vs H1=>sp (vs++[]) H1 Q E0)=t σ H (fun vs H1=>sp vs H1 Q E0)
  congr 1
  funext vs H1
  rw[S8]
 rw[<- e];exact h
end
section
variable {K:j7}{σ0:St}{te:TE}{H:Hp}{F:List V->Hp->Prop}
theorem aI {lo:Int}{n:Nat} (hn:n<=i7) (Pv:Nat->List V->Hp->Prop) (h0:Pv 0 [] H) (hl:∀i ys H,Pv i ys H->ys.length=i) (hσ:σ0[0]?=some none)
  (hs:∀i ys H,i<n->Pv i ys H->te (σ0.set 0 (some (.int (lo+i)))) H fun y H'=>Pv (i+1) (ys++[y]) H') (hd:∀ys H,Pv n ys H->F ys H):BN (JG lo n) σ0 (R7 0) T5 te H F:=by
 refine⟨fun i m ys H=>m=n - i/\i<=n/\Pv i ys H,⟨n,by simp,A7 _,h0⟩,?_⟩
 rintro i m ys H2 ⟨rfl,hi,p⟩
 refine⟨by rw[hl i ys H2 p];lia,?_⟩
 by_cases hlt:i<n
 ·refine .inr ⟨hlt,fun y H'=>Pv (i+1) (ys++[y]) H',fun _=>False,fun y H' q=>⟨n - (i+1),by lia,rfl,hlt,q⟩,fun _ q=>q.elim,fun x H3 y=>?_⟩
  obtain⟨rfl,rfl⟩:=y
  exact⟨Wk.set (.inl hσ),hs i ys _ hlt p⟩
 ·have e:i=n:=by lia
  subst e
  exact .inl ⟨i9 _,hd ys H2 p⟩
theorem ic {a:Addr}{xs:List V} (hn:xs.length<=i7) (Pv:Nat->List V->Hp->Prop) (h0:Pv 0 [] H) (hl:∀i ys H,Pv i ys H->ys.length=i) (hq:∀i ys H,i<=xs.length->Pv i ys H->fC K H a xs) (hσ:σ0[0]?=some none)
  (hs:∀i ys H x,xs[i]?=some x->Pv i ys H->te (σ0.set 0 (some x)) H fun y H'=>Pv (i+1) (ys++[y]) H') (hd:∀ys H,Pv xs.length ys H->F ys H):BN (Itt K a) σ0 (R7 0) T5 te H F:=by
 refine⟨fun i m ys H=>m=xs.length - i/\i<=xs.length/\Pv i ys H,⟨xs.length,by simp,A7 _,h0⟩,?_⟩
 rintro i m ys H2 ⟨rfl,hi,p⟩
 have q:=hq i ys H2 hi p
 refine⟨by rw[hl i ys H2 p];lia,?_⟩
 by_cases hlt:i<xs.length
 ·refine .inr ⟨⟨xs,xs[i],q,by simp[hlt]⟩,fun y H'=>Pv (i+1) (ys++[y]) H',fun _=>False,fun y H' q=>⟨xs.length - (i+1),by lia,rfl,hlt,q⟩,fun _ q=>q.elim,fun x H3 y=>?_⟩
  obtain⟨rfl,y⟩:=y
  exact⟨Wk.set (.inl hσ),hs i ys _ x (y xs q) p⟩
 ·have e:i=xs.length:=by lia
  subst e
  exact .inl ⟨⟨xs,q,i9 _⟩,hd ys H2 p⟩
theorem IJ {a b:Addr}{xs ys:List V} (hn:xs.length<=i7) (hxy:xs.length=ys.length) (Pv:Nat->List V->Hp->Prop) (h0:Pv 0 [] H) (hl:∀i zs H,Pv i zs H->zs.length=i)
  (hq:∀i zs H,i<=xs.length->Pv i zs H->fC K H a xs/\fC K H b ys) (hσ:σ0[0]?=some none/\σ0[1]?=some none)
  (hs:∀i zs H x y p,xs[i]?=some x->ys[i]?=some y->H p=none->Pv i zs H->te ((σ0.set 0 (some x)).set 1 (some y)) (A6 H p (.tup [x,y])) fun z H'=>Pv (i+1) (zs++[z]) H') (hd:∀zs H,Pv xs.length zs H->F zs H):
  BN (Itz K a b) σ0 (Bq K 2 (lh (R7 0) (lh (R7 1) Fs))) T5 te H F:=by
 refine⟨fun i m zs H=>m=xs.length - i/\i<=xs.length/\Pv i zs H,⟨xs.length,by simp,A7 _,h0⟩,?_⟩
 rintro i m zs H2 ⟨rfl,hi,p⟩
 obtain⟨q1,q2⟩:=hq i zs H2 hi p
 refine⟨by rw[hl i zs H2 p];lia,?_⟩
 by_cases hlt:i<xs.length
 ·refine .inr ⟨⟨xs,ys,xs[i],ys[i]'(by lia),q1,q2,by simp[hlt],by rw[i6 (by lia)]⟩,fun y H'=>Pv (i+1) (zs++[y]) H',fun _=>False,fun y H' q=>⟨xs.length - (i+1),by lia,rfl,hlt,q⟩,fun _ q=>q.elim,fun v H3 yld=>?_⟩
  obtain⟨r,x,y,hr,rfl,rfl,hx,hy⟩:=yld
  refine⟨r,[x,y],rfl,.of j0,rfl,x,[y],rfl,y,[],rfl,rfl,?_,?_⟩
  ·refine⟨by simp,fun j u e=>?_⟩
   by_cases h1:j=1
   ·subst h1;rw[hσ.2] at e;cases e
   ·rw[N6 (E8 h1)]
    by_cases h2:j=0
    ·subst h2;rw[hσ.1] at e;cases e
    ·rw[N6 (E8 h2)];exact e
  ·exact hs i zs _ x y r (hx xs q1) (hy ys q2) hr p
 ·have e:i=xs.length:=by lia
  subst e
  exact .inl ⟨⟨xs,q1,i9 _⟩,hd zs H2 p⟩
end
section
variable {X:Cx}
theorem gU {x:Str}{T:String}{pos:Pos} (hg:Gl X x) (hm:X.mg x=none) (hv:Z1 x=some (.type T)) (hn:x≠"__name__":=by decide) (hd:(x == ("__debug__":Str))=false:=by decide):PE X (.Name x pos) (tC (.ty T)):=HD hg hm hv (v:=.ty T) rfl hn hd
theorem bz {scope:M8}{N:List Str}{s:f6}{H:Hp}{ex:List Addr}{i:Nat}{x:Str}{pos:Pos} (hN:N.Nodup) (hi:N[i]?=some x) (hx:OT (X.comp scope N s H ex).env.scope x)
  (hf:(X.comp scope N s H ex).fn x=true ∨ (X.comp scope N s H ex).env.scope.names.lookup x=some .local):PG (X.comp scope N s H ex) (.Name x pos) (R7 i):=R4 hN hi hx hf
end
theorem sz (h:n<=1000):n<=i7:=aq (jo h)
section
variable {X:Cx}{K:j7}
theorem lenK (h:X.K=K):bB X (.builtin "len") (fun xs H Q=>∃p ys,xs=[.ref p]/\(fM K H p ys ∨ fC K H p ys)/\Q (.int ys.length) H):=by subst h;exact E2
theorem Nz (h:X.K=K):bB X (.type "tuple") (fun xs H Q=>∃p ys,xs=[.ref p]/\((fM K H p ys/\∀l,H l=none->Q (.ref l) (A6 H l (.tup ys))) ∨ (fC K H p ys/\Q (.ref p) H))):=by subst h;exact M9
theorem ixK (h:X.K=K):MZ X (Od K):=by subst h;exact ah
theorem ixLK (h:X.K=K):MZ X (Oe K):=by subst h;exact K1
theorem Ec (h:X.K=K) {es:List Expr}{k:Nat}{t:JB}{n:Nat}{pos:Pos} (hc:X.calm=true) (hp:OQ X es t)
  (hn:(cS es X.env).length=n:=by rfl) (hst:(cS es X.env).findIdx? (·.1)=none:=by rfl):PG X (.Tuple es k pos) (Bq K n t):=by subst h;exact jW hc hp hn hst
end
noncomputable def Hd (h:Heap) (a C:Addr):Option Addr->Prop
 | none=>∃oe vs,h.get? a=some oe/\oe.cls=.ref C/\oe.dict=none/\oe.data=.fields vs/\vs[1]?=some .none
 | some T=>∃oe vs oT ts,h.get? a=some oe/\oe.cls=.ref C/\oe.dict=none/\oe.data=.fields vs/\vs[1]?=some (.ref T)/\T≠a/\h.get? T=some oT/\oT.data=.fields ts/\ts[3]?=some .none
variable {h:Heap}{C:Addr}
theorem Hd.at {x:Option Addr} (q:Hd h a C x):∃oe vs,h.get? a=some oe/\oe.cls=.ref C/\oe.dict=none/\oe.data=.fields vs:=by
 cases x with
 | none=>obtain⟨oe,vs,e1,e2,e3,e4,_⟩:=q;exact⟨oe,vs,e1,e2,e3,e4⟩
 | some T=>obtain⟨oe,vs,_,_,e1,e2,e3,e4,_⟩:=q;exact⟨oe,vs,e1,e2,e3,e4⟩
theorem jd (f:Array b9->Array b9) (o:Obj):(K2 f o).dict=o.dict:=by
 obtain⟨c,d,dt,sl⟩:=o
 cases dt <;> rfl
variable {ev:Env}{out:List Env}{L:Addr}{Q:Unit->f6->Prop}
theorem zR {bs:Heap}{ob:Obj}{us:Array b9}{hdv:b9}{hn:Bool}
  (fr:A.frames=some (ev::out)) (ff:s.heap.FunFrames bs (ev::out)) (fl:ev.frame=some L) (ga:s.heap.get? a=some ob) (gc:ob.cls=.ref C) (gd:ob.dict=none) (gf:ob.data=.fields us) (sz:1<us.size)
  (k:∀h' T,Hd h' a C (some T)->s.heap.objs.size<=T->(∀b o,b≠a->b ∉ dz (ev::out)->s.heap.get? b=some o->h'.get? b=some o) ->
   (∀b o,b≠a->s.heap.get? b=some o->∃sl,h'.get? b=some { o with slots:=sl })->Q () { s with heap:=h' }):
  j6 M A (do let x <- frameOf ev;let pl <- entryPlaceOf L hn;let b <- dn hdv x .none (P0 L) .none pl;jJ (.ref a) 1 b) (fun _ s'=>j6 M A (jI (.ref a) none) Q E s') E s:=by
 have na:a ∉ (ev::out).filterMap (·.frame):=fun hm=>by
  obtain⟨_,o,ho,hnf⟩:=ff.mem hm
  rw[ga] at ho
  cases ho
  exact hnf us gf
 refine b7 (Pb fr ff fl fun g1 hs=>?_)
 refine b7 (Nd fun pl hpl=>?_)
 unfold dn newFields
 refine b7 (E6 ?_ (hpl.sizeOk5 _ _ _ _ _))
 have ga1:g1.get? a=some ob:=(hs.2.1 a na).trans ga
 generalize hnew:({ cls:=.type "traceback",dict:=none,data:=.fields ([hdv,.ref L,.none,P0 L,.none]++(if pl.isEmpty then aP 6 A3 else pl)).toArray }:Obj)=ot
 have ga2:(g1.push ot).get? a=some ob:=d9 (h:=g1) ot ga1
 have gt2:(g1.push ot).get? g1.objs.size=some ot:=j8 g1 (by rw[<- hnew];rfl)
 have otd:∃ts,ot.data=.fields ts/\3<ts.size:=by
  refine⟨_,by rw[<- hnew],?_⟩
  simp only[A0,y6,m8,X6]
  lia
 obtain⟨ts,otd,tsz⟩:=otd
 refine T7 ga2 gf sz ?_
 have neT:g1.objs.size≠a:=B7 (i5 ga1)
 have d3:=N7 gf (·.setIfInBounds 1 (n9 g1.objs.size))
 have ga3:=J8 (K2 (·.setIfInBounds 1 (n9 g1.objs.size))) ga2 (X1 d3)
 have gt3:((g1.push ot).update a (K2 (·.setIfInBounds 1 (n9 g1.objs.size)))).get? g1.objs.size=some ot :=
  (C6 (g1.push ot) (K2 (·.setIfInBounds 1 (n9 g1.objs.size))) (E8 neT)).trans gt2
 unfold jI
 refine b7 (C4 ga3 d3 (x:=.ref g1.objs.size) (by simp[sz]) ?_)
 rw[if_pos (show (n9 g1.objs.size != A3)=true from by simp)]
 refine T7 gt3 otd tsz ?_
 have kp:∀b o,b≠a->g1.get? b=some o ->
   (((g1.push ot).update a (K2 (·.setIfInBounds 1 (n9 g1.objs.size)))).update g1.objs.size (K2 (·.setIfInBounds 3 ((none:Option Addr).elim A3 fun f=>P0 f)))).get? b=some o:=by
  intro b o hb e
  have hbT:g1.objs.size≠b:=B7 (i5 e)
  rw[C6 _ _ hbT,C6 _ _ (E8 hb)]
  exact d9 _ e
 refine k _ g1.objs.size ⟨_,_,_,_,(C6 _ _ neT).trans ga3,?_,?_,d3,by simp[sz],neT,J8 _ gt3 (X1 (N7 otd _)),N7 otd _,?_⟩ (by rw[hs.1];exact i9 _) (fun b o hb hf e=>?_) (fun b o hb e=>?_)
 ·rw[oh]
  exact gc
 ·rw[jd]
  exact gd
 ·rw[aG tsz]
  rfl
 ·exact kp b o hb ((hs.2.1 b hf).trans e)
 ·obtain⟨sl,e1⟩:=hs.2.2 b o e
  exact⟨sl,kp b _ hb e1⟩
variable {hd:Option Addr}
theorem EH {bs:Heap}
  (fr:A.frames=some (ev::out)) (ff:s.heap.FunFrames bs (ev::out)) (fl:ev.frame=some L) (x:Hd s.heap a C hd)
  (k:∀h' T,Hd h' a C (some T)->s.heap.objs.size<=T->(∀b o,b≠a->hd≠some b->b ∉ dz (ev::out)->s.heap.get? b=some o->h'.get? b=some o) ->
   (∀b o,b≠a->hd≠some b->s.heap.get? b=some o->∃sl,h'.get? b=some { o with slots:=sl })->Q () { s with heap:=h' }):
  j6 M A (dh (.ref a) ev) (fun _ s'=>j6 M A (jI (.ref a) none) Q E s') E s:=by
 unfold dh
 simp only[fl]
 cases hd with
 | none =>
  obtain⟨oe,vs,e1,e2,e3,e4,e5⟩:=x
  refine b7 (C4 e1 e4 e5 ?_)
  rw[if_neg (by decide)]
  exact zR fr ff fl e1 e2 e3 e4 (Array.getElem?_eq_some_iff.mp e5).1 fun h' T q1 q2 q3 q4=>k h' T q1 q2 (fun b o hb _=>q3 b o hb) (fun b o hb _=>q4 b o hb)
 | some T0 =>
  obtain⟨oe,vs,oT,ts,e1,e2,e3,e4,e5,ne,t1,t2,t3⟩:=x
  refine b7 (C4 e1 e4 e5 ?_)
  rw[if_pos (show (n9 T0 != A3)=true from by simp)]
  refine b7 (C4 t1 t2 t3 ?_)
  rw[if_neg (show ¬ ((A3 == P0 L)=true) from by simp[P0])]
  refine b7 (T7 t1 t2 (Array.getElem?_eq_some_iff.mp t3).1 ?_)
  have ot:∀b,b≠T0->(s.heap.update T0 (K2 (·.setIfInBounds 3 A3))).get? b=s.heap.get? b:=fun b hb=>C6 _ _ (E8 hb)
  have nr:∀b o,s.heap.get? b=some o->(∀vs,o.data≠.fields vs)->b≠T0:=fun b o hb hnf q=>by
   rw[q,t1] at hb
   cases hb
   exact hnf ts t2
  refine zR fr (ff.of_keeps fun b o hb hnf=>⟨o,(ot b (nr b o hb hnf)).trans hb,rfl⟩) fl ((ot a (E8 ne)).trans e1) e2 e3 e4 (Array.getElem?_eq_some_iff.mp e5).1 fun h' T q1 q2 q3 q4=>?_
  have q2':s.heap.objs.size<=T:=by
   have z:=jj s.heap T0 (K2 (·.setIfInBounds 3 A3))
   rw[<- z];exact q2
  exact k h' T q1 q2' (fun b o hb hx hf e=>q3 b o hb hf ((ot b fun z=>hx (by rw[z])).trans e)) (fun b o hb hx e=>q4 b o hb ((ot b fun z=>hx (by rw[z])).trans e))
theorem HZ {bs:Heap}
  (fr:A.frames=some (ev::out)) (ff:s.heap.FunFrames bs (ev::out)) (fl:ev.frame=some L) (x:Hd s.heap a C hd)
  (k:∀h' T,Hd h' a C (some T)->s.heap.objs.size<=T->(∀b o,b≠a->hd≠some b->b ∉ dz (ev::out)->s.heap.get? b=some o->h'.get? b=some o) ->
   (∀b o,b≠a->hd≠some b->s.heap.get? b=some o->∃sl,h'.get? b=some { o with slots:=sl })->Q () { s with heap:=h' }):
  j6 M A (nH ev (.ref a)) Q E s:=by
 unfold nH
 exact b7 (EH fr ff fl x k)
theorem P2.there (x:P2 P w H h a o):∃u,h.get? a=some u:=by
 cases o with
 | lst xs=>obtain⟨_,_,_,_,e⟩:=x;exact⟨_,e⟩
 | tup xs=>obtain⟨_,_,_,ob,e,_⟩:=x;exact⟨_,e⟩
 | dK kvs=>obtain⟨_,_,_,_,ob,_,_,e,_⟩:=x;exact⟨_,e⟩
 | dT kvs=>obtain⟨_,_,_,_,ob,_,_,e,_⟩:=x;exact⟨_,e⟩
 | set S n=>obtain⟨ob,_,_,_,e,_⟩:=x;exact⟨_,e⟩
 | ins C dx fs=>obtain⟨_,_,_,e,_⟩:=x;exact⟨_,e⟩
 | own y=>exact x
 | xd fs=>obtain⟨_,⟨_,_,_,e,_⟩,_⟩:=x;exact⟨_,e⟩
 | rng lo hi=>obtain⟨_,_,_,e⟩:=x;exact⟨_,e⟩
 | frz ob u=>obtain⟨e,_⟩:=x;exact⟨_,e⟩
 | tbl ps=>exact⟨_,(show h.get? a=some _ from x)⟩
 | met f y=>exact⟨_,(show h.get? a=some _ from x)⟩
 | ext φ=>obtain⟨_,e,_⟩:=x;exact e
theorem bU.none_of (x:bU P w H h) (e:h.get? a=none):H a=none:=by
 cases z:H a with
 | none=>rfl
 | some u =>
  obtain⟨o,eo⟩:=(x a u z).there
  rw[e] at eo
  cases eo
structure Gu (P:i8) (w:t9) (fs:List Addr) (H:Hp) (s:f6) (a C:Addr) (H':Hp) (s':f6):Prop where
 os:s'.os=s.os
 bare:jk s'.gens
 un:Un fs [] H H' s.heap s'.heap
 hok:bU P w H' s'.heap
 exc:∃T,Hd s'.heap a C (some T)/\s.heap.get? a=none/\s.heap.get? T=none/\H' a=none/\H' T=none
noncomputable def cj (P:i8) (w:t9):Ai:=fun outer H s E e s'=>∃a C H',e=.ref a/\Gu P w (dz outer) H s a C H' s'/\E (.ref C) none H'
variable {h':Heap}
theorem JV {fs:List Addr}(ha:H a=none) (ht:∀T,hd=some T->H T=none) (hf:∀b∈fs,H b=none)
  (k1:∀b o,b≠a->hd≠some b->b ∉ fs->h.get? b=some o->h'.get? b=some o) (ok:bU P w H h):bU P w H h':=fun b o e=>by
 have nt:∀c u,H c=some u->c≠a/\hd≠some c/\c ∉ fs:=fun c u q=>by
  refine⟨fun z=>?_,fun z=>?_,fun z=>?_⟩
  ·rw[z,ha] at q;cases q
  ·rw[ht c z] at q;cases q
  ·rw[hf c z] at q;cases q
 refine (ok b o e).stay (fun c u hc q=>?_) (fun _ q=>q) fun _ _ q=>q
 rcases hc with z|z
 ·subst z
  obtain⟨n1,n2,n3⟩:=nt _ _ e
  exact k1 _ u n1 n2 n3 q
 ·obtain⟨n1,n2,n3⟩:=nt _ _ z
  exact k1 _ u n1 n2 n3 q
variable {pins:List (Addr × Obj)}{σ:St}
theorem uc (I:C0 X pins σ H s) (hs:X.stack=X.env::X.outer) (hf:X.env.frame=some X.env.locals) (hex:X.ex=[])
  (x:Hd s.heap a C hd) (na:X.s₀.heap.get? a=none) (nT:∀T,hd=some T->X.s₀.heap.get? T=none) (ha:H a=none) (ht:∀T,hd=some T->H T=none)
  (q:∀s',Gu X.prog X.w X.fs X.H₀ X.s₀ a C H s'->Q () s'):j6 M X.A (nH X.env (.ref a)) Q E s:=by
 have fr:X.A.frames=some (X.env::X.outer):=by rw[I.ok.frames,hs]
 have ff:s.heap.FunFrames X.base (X.env::X.outer):=by rw[<- hs];exact I.stack
 have hfs:dz (X.env::X.outer)=X.env.locals::X.fs:=by
  unfold dz
  rw[U5,hf]
  rfl
 refine HZ fr ff hf x fun h' T k0 k00 k1 k2=>q _ ?_
 have exN:∀b,b ∉ X.ex:=fun b z=>by rw[hex] at z;cases z
 have neA:∀b o,X.s₀.heap.get? b=some o->b≠a/\hd≠some b/\b≠X.env.locals:=fun b o e=>by
  refine⟨fun z=>?_,fun z=>?_,m9 (y9 (i5 e) I.ok.above)⟩
  ·rw[z,na] at e;cases e
  ·rw[nT b z] at e;cases e
 refine⟨I.os,I.bare,⟨fun b o e n hb _=>?_,fun b o e n hb _=>?_,fun b o e n _=>I.base.free b o e n (exN b),fun b o e _=>?_,I.base.tups,I.base.frzs,I.base.tbls⟩,JV (fs:=dz (X.env::X.outer)) ha ht (fun b hb=>I.stkFree b (by rw[hs];exact hb)) k1 I.hok,T,k0,na,?_,ha,I.hok.fresh k00⟩
 ·obtain⟨n1,n2,n3⟩:=neA b o e
  exact k1 b o n1 n2 (by rw[hfs];intro z;rcases List.mem_cons.mp z with z|z;exact n3 z;exact hb z) (I.base.keep b o e n hb (exN b))
 ·obtain⟨n1,n2,n3⟩:=neA b o e
  obtain⟨sl,e1⟩:=I.base.slot b o e n hb (exN b)
  obtain⟨sl',e2⟩:=k2 b _ n1 n2 e1
  exact⟨sl',e2⟩
 ·obtain⟨n1,n2,n3⟩:=neA b o e
  obtain⟨o',e1⟩:=I.base.there b o e (exN b)
  obtain⟨sl',e2⟩:=k2 b _ n1 n2 e1
  exact⟨_,e2⟩
 ·exact aR (j9 I.sz k00)
variable {b:Addr}
theorem dY {fs:List Addr}(u:Un fs [] H H' h h') (e:h'.get? b=none):h.get? b=none:=by
 cases q:h.get? b with
 | none=>rfl
 | some o =>
  obtain⟨o',e'⟩:=u.there b o q (by simp)
  rw[e'] at e
  cases e
section
variable {P:i8}{w:t9}{K:j7}{mg:Str->Option b9}{base:Heap}{N:List Str}{qual:Str}{scope:M8}{f:Addr}{cd:b9}{A:y7}{outer:List Env}{s₀:f6}{H₀:Hp}{E:XK}
theorem K0:du (cj P w) (dU (cj P w) P w K mg base N qual scope f cd A outer s₀ H₀ E) E:=by
 intro pins σ H s e s' I h
 obtain⟨a,C,H',rfl,F,hE⟩:=h
 obtain⟨T,x,n1,n2,n3,n4⟩:=F.exc
 have I':=I.call' (ch:=[]) F.os F.un F.hok F.bare (fun b z=>absurd z (by simp))
 exact uc I' rfl rfl rfl x (dY I.base n1) (fun T' z=>by cases z;exact dY I.base n2) n3 (fun T' z=>by cases z;exact n4) fun s'' F'=>⟨a,C,H',rfl,F',hE⟩
noncomputable def vE:List b9:=[.type "ValueError",.type "Exception",.type "BaseException",.type "object"]
def XC (K:j7) (C:Addr):Prop:=ME K C vE "ValueError.__new__"=true
theorem Ir {K:j7}{h:Heap}{C:Addr} (X:K.In h) (q:XC K C):
  ∃bm N nm q bs hdct sn sub ab col dd k0 k1 k2 k3 k5 mN,h.get? C=some (excClassObj nm q C N bs bm hdct sn sub ab col dd k0 k1 k2 k3 k5 "ValueError.__new__")/\h.Ns N mN/\mN "__init__"=none/\OwnTail h vE bm:=by
 unfold XC ME at q
 split at q
 case h_2=>cases q
 case h_1 dd cd sl ho =>
  split at q
  case h_2=>cases q
  case h_1 C' bm k0 k1 k2 k3 n k5 hm hs =>
   simp only[w6,beq_iff_eq,Bool.not_eq_true'] at q
   obtain⟨⟨⟨⟨⟨z1,z2⟩,hdel⟩,ht⟩,hok⟩,hni⟩:=q
   subst z1
   subst z2
   obtain⟨nm,bs,mro,ns,qn,hd,sn,sub,ab,col,del⟩:=cd
   dsimp only at hm hdel hok hni
   subst hm hdel
   have hsl:sl=#[k0,k1,k2,k3,some (.builtin "ValueError.__new__"),k5]:=by
    obtain⟨l⟩:=sl
    simp only at hs
    rw[hs]
   subst hsl
   exact⟨bm,ns,nm,qn,bs,hd,sn,sub,ab,col,dd,k0,k1,k2,k3,k5,_,X _ _ ho,.of_isNs (W.isNs_of_in X hok),W.nsMap_none_of_in X hok hni,W.tail_of_in X ht⟩
def Ke (C:Addr) (E:XK) (t:TA):TS:=fun _ σ H=>t σ H fun _ H1=>E (.ref C) none H1
theorem DX {x:Str}{C:Addr}{e:Expr}{es:List Expr}{t:TA}{np cpos pos:Pos} (hg:Gl (dU (cj P w) P w K mg base N qual scope f cd A outer s₀ H₀ E) x) (hm:mg x=some (.ref C)) (hc:XC K C)
  (ha:PA (dU (cj P w) P w K mg base N qual scope f cd A outer s₀ H₀ E) (e::es) t) (hl:(e::es).length<=1:=by decide)
  (hdb:(x == ("__debug__":Str))=false:=by decide)
  (he:A2 (e::es) (Y5 qual scope s₀.heap.objs.size f cd)=(false,eval e (Y5 qual scope s₀.heap.objs.size f cd))::A2 es (Y5 qual scope s₀.heap.objs.size f cd):=by rfl)
  (hpl:(V2 cpos (A2 es (Y5 qual scope s₀.heap.objs.size f cd))).any (·.1)=false:=by rfl)
  (hvl:∀σ H Q,t σ H Q->t σ H fun vs H1=>vs.length<=i7/\Q vs H1):
  PS (dU (cj P w) P w K mg base N qual scope f cd A outer s₀ H₀ E) (.Raise (some (.Call (.Name x np) (e::es) [] cpos)) none pos) (Ke C E t):=by
 intro pins s σ H D I h
 obtain⟨bm,NN,nm,q,bs,hdct,sn,sub,ab,col,dd,k0,k1,k2,k3,k5,mN,hC,hN,hni,T⟩:=Ir I.ok.mod.kin hc
 have FB:=PySem.F.excBase_ValueError
 refine wpAny_Raise_call_subT (C:=C) (nm:=nm) (q:=q) (N:=NN) (bs:=bs) (bm:=bm) (hdct:=hdct) (sn:=sn) (sub:=sub) (ab:=ab) (col:=col) (dd:=dd) (k0:=k0) (k1:=k1) (k2:=k2) (k3:=k3) (k5:=k5)
  FB (mN:=mN) (T.hasType FB.hasBase) (I.ok.hd rfl) ?_ hni (jt I hg hm ⟨rfl,?_⟩ hdb)
 ·show (V2 cpos (A2 (e::es) (Y5 qual scope s₀.heap.objs.size f cd))).any (·.1)=false
  rw[he]
  show (false || (V2 cpos (A2 es (Y5 qual scope s₀.heap.objs.size f cd))).any (·.1))=false
  rw[hpl]
  rfl
 ·have hq:=ha cpos pins s σ H _ I (hvl _ _ _ h)
  show j6 _ _ (evalArgs (.ref C) true (V2 cpos (A2 (e::es) (Y5 qual scope s₀.heap.objs.size f cd))) []) _ _ s
  have hq':j6 (r0 P w) (A.deeper (Y5 qual scope s₀.heap.objs.size f cd)) (spliced (V2 cpos (A2 (e::es) (Y5 qual scope s₀.heap.objs.size f cd)))) _ _ s:=hq
  rw[he] at hq' ⊢
  refine dM (B5 hq' (fun us s2 ⟨vs,H2,I2,r,lv,hE⟩=>⟨rfl,?_,I2.bk _ _ hC,hN.keeps I2.bk,T.keeps I2.bk,fun h' a mk=>?_⟩) fun _ _ y=>y)
  ·show us.length<=i7
   rw[<- r.length]
   exact lv
  ·obtain⟨t,ea,tn,et⟩:=mk.there
   have ha:H2 a=none:=I2.hok.none_of mk.new
   have I3:C0 (dU (cj P w) P w K mg base N qual scope f cd A outer s₀ H₀ E) pins σ H2 { s2 with heap:=h' }:=I2.kept mk.keeps
   exact uc (hd:=none) I3 rfl rfl rfl ⟨_,_,ea,rfl,rfl,rfl,rfl⟩ (dY I2.base mk.new) (fun T' z=>by cases z) ha (fun T' z=>by cases z) fun s'' F'=>⟨a,C,H2,rfl,F',hE⟩
end
noncomputable abbrev KN (o:Obj):HO:=.frz o (.ext fun _=>True)
theorem rG {o:Obj} (e:h.get? a=some o):P2 P w H h a (KN o):=⟨e,trivial,⟨o,e⟩,fun _ _ _ _=>trivial⟩
theorem bU.kn {o:Obj} (x:bU P w H h) (e:H a=some (KN o)):h.get? a=some o:=(x a _ e).1
theorem bU.know {o:Obj} (x:bU P w H h) (n:H a=none) (e:h.get? a=some o):bU P w (A6 H a (KN o)) h:=fun b u q=>by
 by_cases hb:b=a
 ·subst hb
  rw[j0] at q
  cases q
  exact rG e
 ·rw[v9 hb] at q
  exact(x b u q).stay (fun _ _ _ z=>z) (fun c z=>by rw[v9 (u9 z n)];exact z) fun c xs z=>by rw[v9 (u9 z n)];exact z
theorem Un.know {fs ex:List Addr}(u:Un fs ex H H' h h') (n:H' a=none) (na:h.get? a=none):Un fs ex H (A6 H' a o) h h' where
 keep:=u.keep
 slot:=u.slot
 free:=fun b ob q m hx=>by
  rw[v9 (fun z=>by rw[z,na] at q;cases q)]
  exact u.free b ob q m hx
 there:=u.there
 tups:=fun b xs q=>by
  rw[v9 (u9 (u.tups b xs q) n)]
  exact u.tups b xs q
 frzs:=fun b ob xs q=>by
  rw[v9 (u9 (u.frzs b ob xs q) n)]
  exact u.frzs b ob xs q
 tbls:=fun b ps q=>by
  obtain⟨m,e⟩:=u.tbls b ps q
  exact⟨m,by rw[v9 (u9 e n)];exact e⟩
section
variable {P:i8}{w:t9}{fs:List Addr}{H H':Hp}{s s':f6}{a C:Addr}{M:lB}{A:y7}{E:b9->f6->Prop}{Q:Unit->f6->Prop}
theorem Gu.noteW {bs:Heap}{ev:Env}{out:List Env}{L:Addr} (F:Gu P w (dz (ev::out)) H s a C H' s') (fr:A.frames=some (ev::out)) (ff:s'.heap.FunFrames bs (ev::out)) (fl:ev.frame=some L) (hfs:∀b∈dz (ev::out),H' b=none)
  (q:∀s'',Gu P w (dz (ev::out)) H s a C H' s''->Q () s''):j6 M A (dh (.ref a) ev) (fun _ s2=>j6 M A (jI (.ref a) none) Q E s2) E s':=by
 obtain⟨T0,x,n1,n2,n3,n4⟩:=F.exc
 refine EH fr ff fl x fun h' T k0 k00 k1 k2=>q _ ?_
 have neA:∀b o,s.heap.get? b=some o->b≠a/\some T0≠some b:=fun b o e=>by
  refine⟨fun z=>?_,fun z=>?_⟩
  ·rw[z,n1] at e;cases e
  ·have z':=D8 z
   rw[<- z',n2] at e;cases e
 refine⟨F.os,F.bare,⟨fun b o e n hb hx=>?_,fun b o e n hb hx=>?_,F.un.free,fun b o e hx=>?_,F.un.tups,F.un.frzs,F.un.tbls⟩,JV (hd:=some T0) n3 (fun T' z=>by cases z;exact n4) hfs k1 F.hok,T,k0,n1,?_,n3,F.hok.fresh k00⟩
 ·obtain⟨m1,m2⟩:=neA b o e
  exact k1 b o m1 m2 hb (F.un.keep b o e n hb hx)
 ·obtain⟨m1,m2⟩:=neA b o e
  obtain⟨sl,e1⟩:=F.un.slot b o e n hb hx
  obtain⟨sl',e2⟩:=k2 b _ m1 m2 e1
  exact⟨sl',e2⟩
 ·obtain⟨m1,m2⟩:=neA b o e
  obtain⟨o',e1⟩:=F.un.there b o e hx
  obtain⟨sl',e2⟩:=k2 b _ m1 m2 e1
  exact⟨_,e2⟩
 ·exact dY F.un (aR k00)
theorem Gu.landW (F:Gu P w fs H s a C H' s') (hfs:∀b∈fs,H' b=none) (q:∀s'',Gu P w fs H s a C H' s''->Q () s''):j6 M A (jI (.ref a) none) Q E s':=by
 obtain⟨T,⟨oe,vs,oT,ts,e1,e2,e3,e4,e5,ne,t1,t2,t3⟩,n1,n2,n3,n4⟩:=F.exc
 refine wpAny_setFlight_none e1 e4 e5 t1 t2 (Array.getElem?_eq_some_iff.mp t3).1 (q _ ?_)
 have ot:∀b,b≠T->(s'.heap.update T (K2 (·.setIfInBounds 3 A3))).get? b=s'.heap.get? b:=fun b hb=>C6 _ _ (E8 hb)
 have nT:∀b o,s.heap.get? b=some o->b≠T:=fun b o e z=>by rw[z,n2] at e;cases e
 refine⟨F.os,F.bare,⟨fun b o e n hb hx=>(ot b (nT b o e)).trans (F.un.keep b o e n hb hx),fun b o e n hb hx=>?_,F.un.free,fun b o e hx=>?_,F.un.tups,F.un.frzs,F.un.tbls⟩,?_,T,?_,n1,n2,n3,n4⟩
 ·obtain⟨sl,z⟩:=F.un.slot b o e n hb hx
  exact⟨sl,(ot b (nT b o e)).trans z⟩
 ·obtain⟨o',z⟩:=F.un.there b o e hx
  exact⟨o',(ot b (nT b o e)).trans z⟩
 ·exact JV (fs:=fs) (hd:=some T) n3 (fun T' z=>by cases z;exact n4) hfs (fun b o _ hb _ e=>(ot b fun z=>hb (by rw[z])).trans e) F.hok
 ·exact⟨oe,vs,_,_,(ot a (E8 ne)).trans e1,e2,e3,e4,e5,ne,J8 _ t1 (X1 (N7 t2 _)),N7 t2 _,by
   rw[aG (Array.getElem?_eq_some_iff.mp t3).1]⟩
end
variable {oe:Obj}
theorem Bu {D:Addr}{Q:Bool->f6->Prop} (X:K.In s.heap) (he:s.heap.get? a=some oe) (hc:oe.cls=.ref C)
  (h1:wU K (.ref C) (.ref D)=some true) (h2:mD K (.ref D) (.type "BaseException")=some true) (q:Q true s):j6 M A (excMatches (.ref a) (.ref D)) Q E s:=by
 obtain⟨l1,l2,l3⟩:=W.kit_cls (M:=M) X h1
 have l4:=W.looks_subIn (M:=M) X h2
 have l5:MF M s.heap (typeOf (.ref a)) (.ref C):=hc ▸ (W.Looks.ld he).andThen .now
 have l6:MF M s.heap (isInstance (.ref D) (.type "tuple")) false:=l1.andThen (W.Looks.of_pure tc_notTuple)
 have l7:MF M s.heap (isExcClass (.ref D)) true:=l2.andThen (by simpa using l4)
 unfold excMatches
 refine b7 (l6.here ?_)
 simp only[R9,if_false]
 refine b7 (g0 ?_)
 simp only[eT,cK]
 refine b7 (b7 (b7 (l7.here ?_)))
 simp only[Bool.not_true,R9,if_false]
 refine g0 (g0 (b7 (l5.here (b7 (b7 (b7 (l3.here ?_)))))))
 simp only[if_true]
 exact g0 (g0 (g0 q))
noncomputable abbrev Cx.marked (X:Cx) (v:b9):Cx:={ X with A:=X.A.mark (some v),calm:=false,xe:=fun _ _=>False }
theorem C0.marked {X:Cx}{pins:List (Addr × Obj)}{σ:St}{H:Hp}{s:f6} (I:C0 X pins σ H s) (v:b9):C0 (X.marked v) pins σ H s :=
 ⟨⟨I.ok.mod,I.ok.kind,I.ok.glob,I.ok.blt,I.ok.above,I.ok.inj,I.ok.has,I.ok.cab,(fun z=>absurd z (by simp)),I.ok.frames,I.ok.stk,I.ok.exf,I.ok.bs,I.ok.bsz,I.ok.noex,I.ok.exfs,I.ok.funs,I.ok.frf⟩,
  I.os,I.bare,I.base,I.loc,I.cell,I.free,I.freeC,I.pin,I.hok,I.len⟩
theorem C0.unmarked {v:b9} (ok:X.Ok) (I:C0 (X.marked v) pins σ H s):C0 X pins σ H s :=
 ⟨ok,I.os,I.bare,I.base,I.loc,I.cell,I.free,I.freeC,I.pin,I.hok,I.len⟩
variable {pos:Pos}
theorem AE {i:Nat}{n:Str}(I:C0 X pins σ H s) (hN:X.N.Nodup) (hi:X.N[i]?=some n) (hl:X.env.scope.names.lookup n=some .local)
  (q:∀s',C0 X pins (σ.set i none) H s'->Q () s'):j6 M A (do Aq X.env n .none;JK X.env n pos) Q E s:=by
 refine b7 (Al (fW I hN hi (.inl hl) (v:=.non) rfl (fun s1 I1=>?_) (.inr hl)))
 unfold JK
 refine qi ?_
 obtain⟨m,hn,hlk⟩:=id I1.loc
 have hcls:(X.env.scope.kind == .class || (X.env.scope.kind == .module&&X.env.locals != X.env.globals))=false:=by rw[I.ok.kind];rfl
 have hiσ:i<σ.length:=by rw[I.len];exact(List.getElem?_eq_some_iff.mp hi).1
 obtain⟨u0,_,lk0⟩:=hlk i n .non hi (aj hiσ) (.inl hl)
 have hv:m n=some u0:=by
  rcases lk0 with ⟨_,z⟩|⟨z,_⟩
  ·exact z
  ·have z':X.env.scope.names.lookup n=some .cell ∨ X.env.scope.names.lookup n=some .free:=z
   rw[hl] at z'
   rcases z' with z'|z' <;> cases z'
 have cne:=I1.cne
 obtain⟨oL,_,_,hoL,_⟩:=id hn
 refine wpAny_unbindName_local (show X.env.kindOf n=some .local from hl) hn hv hcls fun h' u hn' hs=>q _ ?_
 have neL:∀b o,X.s₀.heap.get? b=some o->b≠X.env.locals:=fun b o e=>m9 (y9 (i5 e) I.ok.above)
 refine⟨I.ok,I1.os,I1.bare,⟨fun b o e n hb hx=>(hs.2 b (neL b o e)).trans (I1.base.keep b o e n hb hx),fun b o e n hb hx=>?_,I1.base.free,fun b o e hx=>?_,I1.base.tups,I1.base.frzs,I1.base.tbls⟩,⟨_,hn',fun j y v' e1 e2 e3=>?_⟩,fun y c e=>?_,I1.free,I1.freeC,fun p hp=>?_,fun b ob e=>?_,by simpa using I.len⟩
 ·obtain⟨sl,z⟩:=I1.base.slot b o e n hb hx
  exact⟨sl,(hs.2 b (neL b o e)).trans z⟩
 ·obtain⟨o',z⟩:=I1.base.there b o e hx
  exact⟨o',(hs.2 b (neL b o e)).trans z⟩
 ·by_cases hj:j=i
  ·subst hj
   rw[aj hiσ] at e2
   cases e2
  ·rw[N6 (E8 hj)] at e2
   have e2':(σ.set i (some V.non))[j]?=some (some v'):=by rw[N6 (E8 hj)];exact e2
   obtain⟨u',r',z⟩:=hlk j y v' e1 e2' e3
   refine⟨u',r',?_⟩
   rcases z with ⟨k,e⟩|⟨k,c,e,z⟩
   ·refine .inl ⟨k,?_⟩
    have ny:y≠n:=fun e=>hj (ph hN e1 (e ▸ hi))
    simp[ny,e]
   ·exact .inr ⟨k,c,e,z.sameBut hs (cne y c e)⟩
 ·obtain⟨w',z⟩:=I1.cell y c e
  exact⟨w',z.sameBut hs (cne y c e)⟩
 ·obtain⟨e,n,ne,nf,d⟩:=I1.pin p hp
  exact⟨(hs.2 p.1 ne).trans e,n,ne,nf,d⟩
 ·refine (I1.hok b ob e).stay (fun c w' hc z=>(hs.2 c ?_).trans z) (fun _ z=>z) fun _ _ z=>z
  rintro rfl
  have fr:=I1.free
  rcases hc with rfl|hc
  ·rw[fr] at e;cases e
  ·rw[fr] at hc;cases hc
noncomputable def Gb (X:Cx) (k:Nat) (fa:Addr) (sp:Sp) (H:Hp):Prop :=
 ∃fo fd,H fa=some (KN fo)/\fo.data=.func fd/\fG fd ⟨[],[]⟩=pure []/\G7 X.prog X.w X.K X.mg X.base (cj X.prog X.w) k fa fd [] sp
def qg (oe:Obj) (C:Addr):Prop:=oe.cls=.ref C/\oe.dict=none/\∃vs,oe.data=.fields vs
def tTry (X:Cx) (k iC iE iR:Nat) (B:Addr):TS:=fun D σ H=>∃fa sp,σ[iC]?=some (some (.ref fa))/\Gb X k fa sp H /\
 sp [] H (fun _ H1=>D.nx σ H1) (fun c _ H1=>∃C,c=.ref C/\wU X.K (.ref C) (.ref B)=some true/\∀a oe,qg oe C->H1 a=none->D.nx ((σ.set iR (some (.ref a))).set iE none) (A6 H1 a (KN oe)))
theorem Hw {k iC iE iR:Nat}{xc xT n xr:Str}{B:Addr}{p1 p2 p3 p4 p5 p6 p7 p8 p9:Pos} (hs:X.stack=X.env::X.outer) (hfl:X.env.frame=some X.env.locals) (hr:Y9 k X.A) (hN:X.N.Nodup)
  (hC:X.N[iC]?=some xc) (hCv:MV X.env.scope xc) (hE:X.N[iE]?=some n) (hEl:X.env.scope.names.lookup n=some .local) (hR:X.N[iR]?=some xr) (hRl:X.env.scope.names.lookup xr=some .local) (hne:iE≠iR)
  (hg:Gl X xT) (hm:X.mg xT=some (.ref B)) (hB:mD X.K (.ref B) (.type "BaseException")=some true)
  (d1:(xc == ("__debug__":Str))=false:=by decide) (d2:(xc == ("__classdict__":Str))=false:=by decide) (d3:(xT == ("__debug__":Str))=false:=by decide) (d4:(n == ("__debug__":Str))=false:=by decide) (d5:(n == ("__classdict__":Str))=false:=by decide)
  (w1:jH (.Call (.Name xc p1) [] [] p2) none p3.line X.env=pure false:=by rfl) (w2:jH (.Name n p6) (some (.Name xr p5)) p7.line X.env=pure false:=by rfl)
  (w3:Cf [.Name xr p5] (.Name n p6) X.env=pure none:=by rfl):
  PS X (.Try [.Expr (.Call (.Name xc p1) [] [] p2) p3] [.ExceptHandler (some (.Name xT p4)) (some n) [.Assign [.Name xr p5] (.Name n p6) p7] p8] [] [] p9) (tTry X k iC iE iR B):=by
 intro pins s σ H D I h
 obtain⟨fa,sp,e0,⟨fo,fd,kn,hfd,bnd,F⟩,hsp⟩:=h
 refine wpAny_Try_except (uO (wpAny_Expr_any (X4 ?_) I.quiet w1))
 have hv:=tL (X:=X.nox) (i:=iC) (x:=xc) (pos:=p1) hC hCv d1 d2 pins s σ H (fun v H1=>v=.ref fa/\H1=H) (I.wish _) ⟨_,e0,rfl,rfl⟩
 refine B5 hv (fun u s1 ⟨v,H1,I1,r,ev,eH⟩=>?_) fun _ _ z=>D6 z
 subst ev
 subst eH
 obtain rfl:u=n9 fa:=r
 have I2:C0 X pins σ H1 s1:=I1.unwish
 have hfa:W.FnAt fa s1.heap:=by
  have z:=I2.hok.kn kn
  obtain⟨c,d,dt,sl⟩:=fo
  dsimp only at hfd
  subst hfd
  exact⟨c,d,fd,sl,z⟩
 refine W.callWith_F0 hfa (ip (aE (F.run X.A X.stack s1 H1 ⟨[],[]⟩ [] [] _ _ hr I2.env0 (.of_eq bnd) .nil hsp) fun res s' hq=>?_))
 cases res with
 | ok fl =>
  cases fl with
  | ret u =>
   obtain⟨v,H',I3,rv,q3⟩:=I2.after hq
   exact cH (cH ⟨σ,H',I3,q3⟩)
  | next=>exact D6 hq
  | brk=>exact D6 hq
  | cont=>exact D6 hq
 | error e =>
  obtain⟨a,C,H',rfl,F1,C',ec,hk,hnx⟩:=hq
  cases ec
  have hfr:dz X.stack=dz (X.env::X.outer):=by rw[hs]
  have I3:C0 X pins σ H' s':=I2.call' (ch:=[]) F1.os F1.un F1.hok F1.bare (fun b z=>absurd z (by simp))
  have F1':Gu X.prog X.w (dz (X.env::X.outer)) H1 s1 a C H' s':=by rw[<- hfr];exact F1
  have fr0:∀b∈dz (X.env::X.outer),H' b=none:=fun b hb=>I3.stkFree b (by rw[hfr];exact hb)
  refine F1'.noteW (bs:=X.base) (by rw[I.ok.frames,hs]) (by rw[<- hs];exact I3.stack) hfl fr0 fun s3 F3=>?_
  have inv:∀s4,Gu X.prog X.w (dz (X.env::X.outer)) H1 s1 a C H' s4->C0 X pins σ H' s4:=fun s4 F4=>I2.call' (ch:=[]) F4.os (by rw[hfr];exact F4.un) F4.hok F4.bare (fun b z=>absurd z (by simp))
  refine wpAny_handleBy_cons (codeAny_handlers_test (jt (X:=X.marked (.ref a)) ((inv s3 F3).marked _) hg hm ?_ d3)) (by intro q;cases q)
  obtain⟨T3,x3,n1,n2,n3,n4⟩:=F3.exc
  obtain⟨oe3,vs3,e31,e32,e33,e34⟩:=x3.at
  refine Bu (inv s3 F3).kIn e31 e32 hk hB ?_
  show U8 _ _ _ _ s3
  refine codeAny_handlers_suite_as (F3.landW fr0 fun s4 F4=>?_)
  obtain⟨T4,x4,m1,m2,m3,m4⟩:=F4.exc
  obtain⟨oe,vs,e41,e42,e43,e44⟩:=x4.at
  have I4:C0 X pins σ (A6 H' a (KN oe)) s4:=I2.call' (ch:=[]) F4.os (by rw[hfr];exact F4.un.know m3 m1) (F4.hok.know m3 e41) F4.bare (fun b z=>absurd z (by simp))
  refine fW (X:=X.marked (.ref a)) (I4.marked _) hN hE (.inl hEl) (v:=.ref a) rfl (fun s5 I5=>?_) (.inr hEl)
  have hst:qu (X.marked (.ref a)) [.Assign [.Name xr p5] (.Name n p6) p7] (Kl (Kd iE) (R7 iR)):=n6 (F7 hN hR (.inl hRl) (tL hE (.inl hEl) d4 d5) w2 (.inr hRl))
  have hlen:iE<σ.length:=by rw[I.len];exact(List.getElem?_eq_some_iff.mp hE).1
  refine B5 (hst pins s5 _ _ { nx:=fun σ' H2=>σ'=(σ.set iE (some (.ref a))).set iR (some (.ref a))/\H2=A6 H' a (KN oe),rt:=fun _ _=>False } I5 ⟨.ref a,aj hlen,rfl,rfl⟩) (fun f s6 q=>?_) fun _ _ z=>D6 z
  cases f with
  | ret v=>obtain⟨_,_,_,_,_,z⟩:=q;exact D6 z
  | brk=>obtain⟨_,_,_,z⟩:=q;exact D6 z
  | cont=>obtain⟨_,_,_,z⟩:=q;exact D6 z
  | next =>
   obtain⟨σ6,H6,I6,eσ,eH⟩:=q
   subst eσ
   subst eH
   refine AE (I6.unmarked I.ok) hN hE hEl fun s7 I7=>⟨_,_,I7,?_⟩
   have z:=hnx a oe ⟨e42,e43,vs,e44⟩ m3
   have hσ:((σ.set iE (some (V.ref a))).set iR (some (V.ref a))).set iE none=(σ.set iR (some (V.ref a))).set iE none:=by
    apply cL
    intro j
    simp only[List.getElem?_set,jx]
    by_cases z1:iE=j <;> by_cases z2:iR=j <;> simp[z1,z2]
   rw[hσ]
   exact z
structure XI (K:j7) (C:Addr):Prop where
 ga:N0 K (.ref C) "__getattribute__"=some (some (.builtin "BaseException.__getattribute__"))
 gt:N0 K (.ref C) "__getattr__"=some none
 sb:mD K (.ref C) (.type "BaseException")=some true
 hc:(wF K C).isSome=true
 ha:N0 K (.ref C) "__class__"=some (some (.builtin "object.__class__"))
 hn:lC K (.builtin "object.__class__") "__get__"=some (some (.builtin "getset_descriptor.__get__"))
 tk:BR K (.builtin "object.__class__")=some true
 hm:MD K C (.type "object")=some true
variable {name:Str}
theorem ud {a g:b9} (hc:(wF K C).isSome=true) (ha:N0 K (.ref C) name=some (some a)) (hg:lC K a "__get__"=some (some g)) (ht:BR K a=some true):
  Ni K C none name=some (.bind g a):=by
 obtain⟨cd,hc⟩:=Option.isSome_iff_exists.mp hc
 unfold Ni
 rw[hc,Gh,ha,Gh]
 simp[hg,ht]
theorem Bi {prog:i8}{g d:b9}(X:K.In s.heap) (I:PL s.heap a oe C none)
  (hga:N0 K (.ref C) "__getattribute__"=some (some (.builtin "BaseException.__getattribute__"))) (hgt:N0 K (.ref C) "__getattr__"=some none) (hs:mD K (.ref C) (.type "BaseException")=some true)
  (hf:Ni K C none name=some (.bind g d)) {Q:Option b9->f6->Prop}
  (h:j6 (r0 prog w) A.in1 (call g [d,.ref a,.ref C]) (fun v s'=>j6 (r0 prog w) A (handedOut v) (fun v s''=>Q (some v) s'') (fun _ _=>False) s') (fun _ _=>False) { s with toks:=s.toks+1 }):
  j6 (r0 prog w) A (getAttr? (.ref a) name) Q E s:=by
 obtain⟨hh,gg,dr,t,os⟩:=s
 have L0:=I.type (M:=r0 prog w)
 have L1:=wR (M:=r0 prog w) X hga
 have L2:=wR (M:=r0 prog w) X hgt
 have L3:=W.looks_find (M:=r0 prog w) X I hf
 have L4:MF (r0 prog w) hh (isInstance (.ref a) (.type "BaseException")) true:=L0.andThen (W.looks_subIn X hs)
 have f3:=PySem.F.excAttr_ValueError.ga.bind (.ref a)
 unfold getAttr? getAttrBy? getAttrBy
 refine b7 (wpAny_mkText (b7 (W2 (F0 (b7 (L0.at (b7 (L1.at ?_))))))))
 have hx2:(bE "BaseException.__getattribute__" == bE "object.__getattribute__")=false:=by decide+kernel
 have hx3:(PD (n9 C)&&bE "BaseException.__getattribute__" == bE "object.__getattribute__")=false:=by rw[hx2];rfl
 show j6 _ _ (if (PD (n9 C)&&bE "BaseException.__getattribute__" == bE "object.__getattribute__")=true then _ else getAttrByItsOwn _ _ _ _ _ _) _ _ _
 rw[hx3,if_neg (by decide)]
 unfold getAttrByItsOwn hookBefore
 simp only[PD,if_true]
 refine b7 (L2.at (b7 (W2 (F0 ?_))))
 unfold callGetattribute
 rw[if_neg (by decide)]
 unfold boundAndCalled
 refine b7 (wB f3 (ip ?_))
 refine codeAny_call_builtin PySem.F.excAttr_ValueError.ga.plain PySem.F.entry_bexc_ga ?_
 have hk:builtinKind "BaseException.__getattribute__"=some .slot:=by decide+kernel
 have hsplit:splitId "BaseException.__getattribute__"=some ("BaseException","__getattribute__"):=by decide+kernel
 have ha:=PySem.F.args_bexc_ga (.ref a) (.str name t)
 simp only[checkBuiltinCall,hk,hsplit]
 refine b7 (L4.at ?_)
 repeat (first|wp_step)
 refine Ak I.at_ (g0 ?_)
 rw[I.cls]
 refine b7 (L3.at ?_)
 show j6 _ _ (jL g d (.ref a) (.ref C)) _ _ _
 unfold jL
 dsimp only
 exact b7 (F0 (B5 h (fun v s' z=>g0 (B5 z (fun v s'' q=>g0 q) (fun _ _ z=>z.elim))) (fun _ _ z=>z.elim)))
theorem qg.inst (x:qg oe C) (e:h.get? a=some oe):PL h a oe C none:=by
 obtain⟨c,d,vs,hv⟩:=x
 refine⟨e,c,?_,?_⟩
 ·obtain⟨c0,d0,dt,sl⟩:=oe
  dsimp only at hv
  subst hv
  rfl
 ·rw[d]
  trivial
theorem Fg (Z:XI K C) (x:qg oe C):W.KitX K (.ref a) (.ref C) (fun h=>h.get? a=some oe) where
 ty:=fun _ _ _ e=>(x.inst e).type
 it:=fun _ _ X _=>by
  obtain⟨cd,hcD⟩:=Option.isSome_iff_exists.mp Z.hc
  unfold wF at hcD
  split at hcD
  case h_2=>cases hcD
  case h_1 c' d' cd' sl' ho =>
   intro A' Q' E' s' k q
   unfold isType loadHead
   exact b7 (Ak (k _ _ (X _ _ ho)) (g0 q))
 ne:=fun h tp dd its n sl X htp=>by
  obtain⟨cd,hcD⟩:=Option.isSome_iff_exists.mp Z.hc
  refine Bool.eq_false_iff.mpr fun q=>?_
  have e:C=tp:=Value.ref.inj (beq_iff_eq.mp q)
  subst e
  unfold wF at hcD
  split at hcD
  case h_2=>cases hcD
  case h_1 c' d' cd' sl' ho =>
   have z:=(X _ _ ho).symm.trans htp
   cases z
 ca:=fun {_ _ _ _ _ s} X e k=>by
  have hf:=ud Z.hc Z.ha Z.hn Z.tk
  have I:=x.inst e
  exact Bi X I Z.ga Z.gt Z.sb hf (ip (W.class_get (s:={ s with toks:=s.toks+1 }) (ox:=oe) (od:=none) X I Z.hm (W.handed_on rfl k)))
noncomputable def clV:V->Option b9
 | .ref D=>some (.ref D)
 | .ty T=>some (.type T)
 | _=>none
noncomputable def rIsX (K:j7):List V->Hp->VK->Prop:=fun xs H Q=>∃a oe C c cv b,xs=[.ref a,c]/\H a=some (KN oe)/\qg oe C/\XI K C/\clV c=some cv/\bV K (.ref C) cv=some b/\Q (.bl b) H
theorem aB :bB X (.builtin "isinstance") (rIsX X.K):=by
 intro pins s σ H xs us Q I r h
 obtain⟨a,oe,C,c,cv,b,rfl,ha,x,Z,hcv,hk,q⟩:=h
 cases r with
 | cons r1 rr =>
  cases rr with
  | cons r2 rr =>
   cases rr
   cases r1
   have ec:∀u,G9 c u->u=cv:=fun u ru=>by
    cases c with
    | ref D=>cases hcv;exact ru
    | ty T=>cases hcv;exact ru
    | _=>cases hcv
   have eu:=ec _ r2
   subst eu
   exact aJ (Fg Z x) I.kIn (I.hok.kn ha) hk (by intro z;cases z) fun tk=>⟨.bl b,H,I.tok tk,rfl,q⟩
theorem yY:∀{bs:List Bool}{us:List b9},G6 (bs.map V.bl) us->us=bs.map P3
 | [],_,.nil=>rfl
 | _::_,_,.cons r t=>by rw[yY t];cases r;rfl
noncomputable def Og:V->List V->Hp->VK->Prop:=fun x vs H Q=>∃(l:Addr) (bs:List Bool) (j:Nat),x=.ref l/\vs=[.bl true]/\H l=some (.lst (bs.map V.bl))/\bs[j]?=some true/\(∀m,m<j->bs[m]?=some false)/\Q (.int j) H
theorem Bf :MY X "list.index" Og:=by
 intro pins s σ H x vs v us Q I rx rv h
 obtain⟨l,bs,j,rfl,rfl,hH,hj,hno,q⟩:=h
 cases rx
 obtain⟨u,rfl,ru⟩:=rv.one
 cases ru
 obtain⟨z,its,n,r,hl,e⟩:=I.lstM hH
 have ei:=yY r
 subst ei
 obtain⟨j1,j2⟩:=List.getElem?_eq_some_iff.mp hj
 have z':bs.length<=i7:=by simpa using z
 have hsz:i7<2 ^ 63 - 1:=by decide
 refine qx F.slot_list_index ⟨_,e,rfl⟩ F.entry_list_index (F.args_list_index_2 _ _)
  (SeqAt.list_indexAt l (bs.map P3).toArray n none #[] (.bool true) (fun y=>y == P3 true) j (by simpa using j1) (by lia) ?_ ?_) ⟨e,fun y hy=>?_,?_⟩
 ·simp[j2]
 ·intro m hm hlt
  have:=hno m hlt
  obtain⟨m1,m2⟩:=List.getElem?_eq_some_iff.mp this
  simp[m2]
 ·obtain⟨b,hb,rfl⟩:∃b,b∈bs/\P3 b=y:=by simpa using hy
  have eb:(P3 b == P3 true)=(b == true):=by cases b <;> rfl
  show lE _ _ _ _ (P3 b == P3 true)
  rw[eb]
  exact uB b true
 ·exact⟨.int j,H,I.tok _,⟨_,rfl⟩,q⟩
def fN (cl:List (Str × Addr)) (b:Addr):Prop:=∃x,cl.lookup x=some b
open Classical in
noncomputable def bH (cl:List (Str × Addr)) (H:Hp):Hp:=fun b=>if fN cl b then none else H b
open Classical in
noncomputable def vw (cl:List (Str × Addr)) (H H':Hp):Hp:=fun b=>if fN cl b then H b else H' b
theorem fk (h:fN cl b):bH cl H b=none:=by unfold bH;rw[if_pos h]
theorem M7 (h:¬ fN cl b):bH cl H b=H b:=by unfold bH;rw[if_neg h]
theorem ya (h:fN cl b):vw cl H H' b=H b:=by unfold vw;rw[if_pos h]
theorem bR (h:¬ fN cl b):vw cl H H' b=H' b:=by unfold vw;rw[if_neg h]
def wz (cl:List (Str × Addr)) (H:Hp):Prop:=∀x c,cl.lookup x=some c->∃oc v,H c=some (KN oc)/\oc.data=.cell v
section
variable {P:i8}{w:t9}{fs:List Addr}{cl:List (Str × Addr)}{H H':Hp}{h h':Heap}
theorem EF (ok:bU P w H h) (ck:wz cl H):bU P w (bH cl H) h:=fun b o e=>by
 have nb:¬ fN cl b:=fun z=>by rw[fk z] at e;cases e
 rw[M7 nb] at e
 have nk:∀c u,H c=some u->(∀oc,u≠KN oc)->¬ fN cl c:=fun c u q n ⟨x,z⟩=>by
  obtain⟨oc,v,q',_⟩:=ck x c z
  rw[q] at q'
  exact n oc (D8 q')
 refine (ok b o e).stay (fun _ _ _ q=>q) (fun c q=>?_) fun c xs q=>?_
 ·rw[M7 (nk c _ q (by intro oc z;cases z))];exact q
 ·rw[M7 (nk c _ q (by intro oc z;cases z))];exact q
theorem Jf (u:Un fs [] (bH cl H) H' h h') (ok:bU P w H h) (ck:wz cl H) (hfs:∀b∈fs,H b=none):Un fs [] H (vw cl H H') h h':=by
 have nc:∀b,H b=none->¬ fN cl b:=fun b n ⟨x,z⟩=>by
  obtain⟨oc,v,q,_⟩:=ck x b z
  rw[n] at q;cases q
 have nk:∀c u,H c=some u->(∀oc,u≠KN oc)->¬ fN cl c:=fun c u q n ⟨x,z⟩=>by
  obtain⟨oc,v,q',_⟩:=ck x c z
  rw[q] at q'
  exact n oc (D8 q')
 refine⟨fun b o e n hb hx=>u.keep b o e (by rw[M7 (nc b n)];exact n) hb hx,fun b o e n hb hx=>u.slot b o e (by rw[M7 (nc b n)];exact n) hb hx,fun b o e n hx=>?_,u.there,fun b xs q=>?_,fun b o xs q=>?_,fun b ps q=>?_⟩
 ·rw[bR (nc b n)]
  exact u.free b o e (by rw[M7 (nc b n)];exact n) hx
 ·have z:=nk b _ q (by intro oc z;cases z)
  rw[bR z]
  exact u.tups b xs (by rw[M7 z];exact q)
 ·by_cases z:fN cl b
  ·rw[ya z];exact q
  ·rw[bR z]
   exact u.frzs b o xs (by rw[M7 z];exact q)
 ·have z:=nk b _ q (by intro oc z;cases z)
  obtain⟨m,e⟩:=u.tbls b ps (by rw[M7 z];exact q)
  exact⟨m,by rw[bR z];exact e⟩
theorem Fn (u:Un fs [] (bH cl H) H' h h') (ok:bU P w H h) (ok':bU P w H' h') (ck:wz cl H) (hfs:∀b∈fs,H b=none):bU P w (vw cl H H') h':=fun b o e=>by
 have hn:∀c,fN cl c->H' c=none/\∃oc v,H c=some (KN oc)/\oc.data=.cell v/\h'.get? c=some oc:=fun c z=>by
  obtain⟨x,zx⟩:=z
  obtain⟨oc,v,q,d⟩:=ck x c zx
  have g:=ok.kn q
  exact⟨u.free c oc g (fk ⟨x,zx⟩) (by simp),oc,v,q,d,u.keep c oc g (fk ⟨x,zx⟩) (fun hb=>by rw[hfs c hb] at q;cases q) (by simp)⟩
 by_cases z:fN cl b
 ·rw[ya z] at e
  obtain⟨_,oc,v,q,d,g⟩:=hn b z
  rw[q] at e
  cases e
  exact rG g
 ·rw[bR z] at e
  refine (ok' b o e).stay (fun _ _ _ q=>q) (fun c q=>?_) fun c xs q=>?_
  ·rw[bR (fun zc=>by rw[(hn c zc).1] at q;cases q)];exact q
  ·rw[bR (fun zc=>by rw[(hn c zc).1] at q;cases q)];exact q
theorem JW {Hf:Hp} (u:Un fs [] Hf H' h h') (ok:bU P w Hf h) (ok':bU P w H' h') (ck:wz cl Hf) (hc:∀b,fN cl b->H b=none) (ho:∀b,¬ fN cl b->Hf b=H b):Un fs [] H (bH cl H') h h'/\bU P w (bH cl H') h':=by
 have hk:∀b,fN cl b->∃oc v,H' b=some (KN oc)/\oc.data=.cell v/\h.get? b=some oc/\h'.get? b=some oc:=fun b z=>by
  obtain⟨x,zx⟩:=z
  obtain⟨oc,v,q,d⟩:=ck x b zx
  have q':=u.frzs b _ _ q
  exact⟨oc,v,q',d,ok.kn q,ok'.kn q'⟩
 have nk:∀c u,H' c=some u->(∀oc,u≠KN oc)->¬ fN cl c:=fun c u q n z=>by
  obtain⟨oc,v,q',_⟩:=hk c z
  rw[q] at q'
  exact n oc (D8 q')
 have nh:∀c u,H c=some u->¬ fN cl c:=fun c u q z=>by rw[hc c z] at q;cases q
 refine⟨⟨fun b o e n hb hx=>?_,fun b o e n hb hx=>?_,fun b o e n hx=>?_,u.there,fun b xs q=>?_,fun b o xs q=>?_,fun b ps q=>?_⟩,fun b o e=>?_⟩
 ·by_cases z:fN cl b
  ·obtain⟨oc,v,_,_,g,g'⟩:=hk b z
   rw[e] at g;cases g
   exact g'
  ·exact u.keep b o e (by rw[ho b z];exact n) hb hx
 ·by_cases z:fN cl b
  ·obtain⟨oc,v,_,_,g,g'⟩:=hk b z
   rw[e] at g;cases g
   exact⟨o.slots,g'⟩
  ·exact u.slot b o e (by rw[ho b z];exact n) hb hx
 ·by_cases z:fN cl b
  ·exact fk z
  ·rw[M7 z]
   exact u.free b o e (by rw[ho b z];exact n) hx
 ·have z:=nh b _ q
  rw[M7 z]
  exact u.tups b xs (by rw[ho b z];exact q)
 ·have z:=nh b _ q
  rw[M7 z]
  exact u.frzs b o xs (by rw[ho b z];exact q)
 ·have z:=nh b _ q
  obtain⟨m,e⟩:=u.tbls b ps (by rw[ho b z];exact q)
  exact⟨m,by rw[M7 z];exact e⟩
 ·have z:¬ fN cl b:=fun z=>by rw[fk z] at e;cases e
  rw[M7 z] at e
  refine (ok' b o e).stay (fun _ _ _ q=>q) (fun c q=>?_) fun c xs q=>?_
  ·rw[M7 (nk c _ q (by intro oc z;cases z))];exact q
  ·rw[M7 (nk c _ q (by intro oc z;cases z))];exact q
end
def bJ (q:Str) (T:Addr) (H:Hp):Prop:=∃ps,H T=some (.tbl ps)/\ig ps.toList /\
 ∀pos v,ie pos ps.toList=some v->∃c oc vs t,v=.ref c/\H c=some (KN oc)/\oc.data=.fields vs/\vs[1]?=some (.str q t)
variable {l:List b9}
theorem mI (h:ig l):l=[] ∨ ∃i t j u c r,l=.int i t::.int j u::c::r/\ig r:=by
 unfold ig at h
 split at h
 ·exact .inl rfl
 ·exact .inr ⟨_,_,_,_,_,_,rfl,h⟩
 ·exact h.elim
theorem vd {i j:Int}{t u:Tok}{c:b9} (h:ig l):ig (l++[.int i t,.int j u,c]):=by
 generalize hn:l.length=n
 induction n using MH generalizing l with
 | _ n ih =>
  rcases mI h with e|⟨a,ta,b,tb,x,r,e,hr⟩
  ·subst e;trivial
  ·subst e
   have z:ig (r++[.int i t,.int j u,c]):=ih r.length (by rw[<- hn];simp only[m8];lia) hr rfl
   exact z
theorem BI {i j:Int}{t u:Tok}{c v:b9} (h:ig l) (e:ie pos (l++[.int i t,.int j u,c])=some v):ie pos l=some v ∨ v=c:=by
 generalize hn:l.length=n
 induction n using MH generalizing l with
 | _ n ih =>
  rcases mI h with q|⟨a,ta,b,tb,x,r,q,hr⟩
  ·subst q
   have e':(if (i == (pos.line:Int)&&j == (pos.col:Int))=true then some c else ie pos [])=some v:=e
   by_cases z:(i == (pos.line:Int)&&j == (pos.col:Int))=true
   ·rw[if_pos z] at e';exact .inr (D8 e').symm
   ·rw[if_neg z] at e';cases e'
  ·subst q
   have e':(if (a == (pos.line:Int)&&b == (pos.col:Int))=true then some x else ie pos (r++[.int i t,.int j u,c]))=some v:=e
   show (if (a == (pos.line:Int)&&b == (pos.col:Int))=true then some x else ie pos r)=some v ∨ v=c
   by_cases z:(a == (pos.line:Int)&&b == (pos.col:Int))=true
   ·rw[if_pos z] at e'
    rw[if_pos z]
    exact .inl e'
   ·rw[if_neg z] at e'
    rw[if_neg z]
    exact ih r.length (by rw[<- hn];simp only[m8];lia) hr e' rfl
structure IU (X:Cx) (T:Addr):Prop where
 code:∃c,X.env.code=.ref c/\W.CodeHd X.base c T
 blt:X.base.BuiltinsAt X.mg T
abbrev pO (X:Cx):Str:=X.env.qual++"<lambda>"
noncomputable abbrev Ff (X:Cx) (params:bP) (body:Expr) (scope:M8) (c:Addr) (ctv:b9):Obj:=BU "<lambda>" (pO X) params body scope (Q6 X.env scope.names []) ((X.mg "__name__").getD .none) c ctv
def Ah (q:Str) (H:Hp) (c:Addr):Prop:=∃oc vs t,H c=some (KN oc)/\oc.data=.fields vs/\vs[1]?=some (.str q t)
def tLam (X:Cx) (T:Addr) (params:bP) (body:Expr) (scope:M8):TE:=fun σ H Q=>bJ (pO X) T H /\
 ∀f c ctv H',(∀b o,b≠T->H b=some o->H' b=some o)->bJ (pO X) T H'->H f=none->H' f=some (KN (Ff X params body scope c ctv))->Ah (pO X) H' c->Q (.ref f) H'
variable {T:Addr}
theorem cD {params:bP}{body:Expr}(Z:IU X T) (hdef:defaultsOf params X.env=([],[]):=by rfl) (hf:Y1 scope X.env=true:=by rfl):
  PE X (.Lambda params body scope pos) (tLam X T params body scope):=by
 intro pins s σ H Q I h
 obtain⟨⟨ps,hP,ht,hk⟩,q⟩:=h
 obtain⟨c,hc,C⟩:=Z.code
 obtain⟨bm,ob,b1,b2,b3,b4,b5,b6⟩:=Z.blt
 have hcl:=aZ (I.closed hf)
 have hg:=I.mod.glob.keeps I.bk
 have gP:s.heap.get? T=some (GG ps):=I.hok T _ hP
 have hgT:u6≠T:=fun z=>by
  obtain⟨o,es,ep,e,hd,_⟩:=hg
  rw[z,gP] at e;cases e;cases hd
 have hB:s.heap.BuiltinsAt X.mg T:=⟨bm,ob,b1,b2,b3,b4,I.bk _ _ b5,b6⟩
 refine W.kla_eval hdef ?_
 cases e:ie pos ps.toList with
 | none =>
  refine W.kla_makeFunction (mg:=X.mg) hcl I.ok.glob hg hc (C.keeps I.bk) gP ht e hgT hB fun c' ctv h' tk hx hge hlt hrec htb=>?_
  obtain⟨c2,oc,vs,t,e2,hoc,hd,hv⟩:=hrec
  cases e2
  have nT:T<s.heap.objs.size:=i5 gP
  have cT:c'≠T:=fun z=>absurd hge (by rw[z];exact Nat.not_le_of_lt nT)
  have fT:h'.objs.size≠T:=fun z=>absurd (K6 hge hlt) (by rw[z];exact Nat.lt_asymm nT)
  have fc:c'≠h'.objs.size:=m9 hlt
  have sz:s.heap.objs.size<=h'.objs.size:=j9 hge (aq hlt)
  have nc:H c'=none:=I.hok.fresh hge
  have nf:H h'.objs.size=none:=I.hok.fresh sz
  generalize hfo:BU "<lambda>" (X.env.qual++"<lambda>") params body scope (Q6 X.env scope.names []) ((X.mg "__name__").getD .none) c' ctv=fo
  generalize hps:ps++#[P0 pos.line,P0 pos.col,.ref c']=ps' at htb
  have hfree:fo.isFreed=false:=by rw[<- hfo];rfl
  have kp:∀b o,b≠T->s.heap.get? b=some o->(h'.push fo).get? b=some o:=fun b o hb eb=>d9 _ (hx b o hb eb)
  let H1:Hp:=A6 (A6 (A6 H T (.tbl ps')) c' (KN oc)) h'.objs.size (KN fo)
  have hT1:H1 T=some (.tbl ps'):=by
   show A6 (A6 (A6 H T (.tbl ps')) c' (KN oc)) h'.objs.size (KN fo) T=_
   rw[v9 (E8 fT),v9 (E8 cT),j0]
  have hc1:H1 c'=some (KN oc):=by
   show A6 (A6 (A6 H T (.tbl ps')) c' (KN oc)) h'.objs.size (KN fo) c'=_
   rw[v9 fc,j0]
  have hf1:H1 h'.objs.size=some (KN fo):=j0
  have ho1:∀b,b≠T->b≠c'->b≠h'.objs.size->H1 b=H b:=fun b z1 z2 z3=>by
   show A6 (A6 (A6 H T (.tbl ps')) c' (KN oc)) h'.objs.size (KN fo) b=_
   rw[v9 z3,v9 z2,v9 z1]
  have hs1:∀b o,b≠T->H b=some o->H1 b=some o:=fun b o z eb=>by
   rw[ho1 b z (u9 eb nc) (u9 eb nf)];exact eb
  have old:∀b o,s.heap.get? b=some o->b≠c'/\b≠h'.objs.size:=fun b o eb=>⟨m9 (y9 (i5 eb) hge),m9 (y9 (i5 eb) sz)⟩
  have uT:∀b,H b=none->b≠T:=fun b n z=>by rw[z,hP] at n;cases n
  have U:Un X.fs [] H H1 s.heap (h'.push fo):=by
   refine⟨fun b o eb n _ _=>kp b o (uT b n) eb,fun b o eb n _ _=>⟨o.slots,kp b o (uT b n) eb⟩,fun b o eb n _=>?_,fun b o eb _=>?_,fun b xs eb=>?_,fun b o u eb=>?_,fun b qs eb=>?_⟩
   ·rw[ho1 b (uT b n) (old b o eb).1 (old b o eb).2];exact n
   ·by_cases z:b=T
    ·subst z;exact⟨_,d9 _ htb⟩
    ·exact⟨o,kp b o z eb⟩
   ·exact hs1 b _ (fun z=>by rw[z,hP] at eb;cases eb) eb
   ·exact hs1 b _ (fun z=>by rw[z,hP] at eb;cases eb) eb
   ·by_cases z:b=T
    ·subst z
     rw[hP] at eb;cases eb
     exact⟨_,by rw[hT1,<- hps]⟩
    ·exact⟨#[],by rw[hs1 b _ z eb];simp⟩
  have OK:bU X.prog X.w H1 (h'.push fo):=fun b o eb=>by
   by_cases z1:b=T
   ·subst z1
    rw[hT1] at eb;cases eb
    exact d9 _ htb
   ·by_cases z2:b=c'
    ·subst z2
     rw[hc1] at eb;cases eb
     exact rG (d9 _ hoc)
    ·by_cases z3:b=h'.objs.size
     ·subst z3
      rw[hf1] at eb;cases eb
      exact rG (j8 _ hfree)
     ·rw[ho1 b z1 z2 z3] at eb
      refine (I.hok b o eb).stay (fun d v hd qd=>kp d v ?_ qd) (fun d qd=>hs1 d _ (fun z=>by rw[z,hP] at qd;cases qd) qd) fun d xs qd=>hs1 d _ (fun z=>by rw[z,hP] at qd;cases qd) qd
      rcases hd with hd|hd
      ·rw[hd];exact z1
      ·intro z;rw[z,hP] at hd;cases hd
  have I1:=I.un (t':=tk) U OK
  have fin:=q h'.objs.size c' ctv H1 hs1 ⟨ps',hT1,?_,fun pos' v ev=>?_⟩ nf (by rw[hf1,<- hfo]) ⟨oc,vs,t,hc1,hd,hv⟩
  ·exact⟨.ref h'.objs.size,H1,I1,rfl,fin⟩
  ·rw[<- hps]
   have z:=vd (i:=pos.line) (j:=pos.col) (t:=0) (u:=0) (c:=.ref c') ht
   simpa [P0] using z
  ·rw[<- hps] at ev
   have ev':ie pos' (ps.toList++[.int pos.line 0,.int pos.col 0,.ref c'])=some v:=by simpa [P0] using ev
   rcases BI ht ev' with z|z
   ·obtain⟨c3,oc3,vs3,t3,y1,y2,y3,y4⟩:=hk pos' v z
    exact⟨c3,oc3,vs3,t3,y1,hs1 c3 _ (fun z=>by rw[z,hP] at y2;cases y2) y2,y3,y4⟩
   ·exact⟨c',oc,vs,t,z,hc1,hd,hv⟩
 | some cv =>
  obtain⟨c3,oc3,vs3,t3,y1,y2,y3,y4⟩:=hk pos cv e
  subst y1
  refine W.kla_makeFunctionHit (mg:=X.mg) hcl I.ok.glob hg hc (C.keeps I.bk) gP ht e hB fun ctv h' tk hkp sz=>?_
  have nf:H h'.objs.size=none:=I.hok.fresh sz
  have kp:∀b o,s.heap.get? b=some o->(h'.push (Ff X params body scope c3 ctv)).get? b=some o:=fun b o eb=>d9 _ (hkp b o eb)
  have I1:=I.laid (t':=tk) (o:=KN (Ff X params body scope c3 ctv)) kp sz (rG (j8 _ rfl))
  have hs1:∀b o,H b=some o->A6 H h'.objs.size (KN (Ff X params body scope c3 ctv)) b=some o:=fun b o eb=>by rw[v9 (u9 eb nf)];exact eb
  refine⟨.ref h'.objs.size,_,I1,rfl,q h'.objs.size c3 ctv _ (fun b o _ eb=>hs1 b o eb) ⟨ps,hs1 _ _ hP,ht,fun pos' v ev=>?_⟩ nf j0 ⟨oc3,vs3,t3,hs1 _ _ y2,y3,y4⟩⟩
  obtain⟨c4,oc4,vs4,t4,x1,x2,x3,x4⟩:=hk pos' v ev
  exact⟨c4,oc4,vs4,t4,x1,hs1 _ _ x2,x3,x4⟩
noncomputable def qc (P:i8) (w:t9) (K:j7) (mg:Str->Option b9) (base:Heap) (N:List Str) (qual:Str) (scope:M8) (f:Addr) (cd:b9) (cl:List (Str × Addr)) (A:y7) (outer:List Env) (s:f6) (H:Hp) (E:XK):Cx where
 prog:=P
 w:=w
 K:=K
 mg:=mg
 base:=base
 A:=A.deeper (lD qual scope s.heap.objs.size f cd cl)
 N:=N
 s₀:=s
 H₀:=H
 env:=lD qual scope s.heap.objs.size f cd cl
 outer:=outer
 stack:=lD qual scope s.heap.objs.size f cd cl::outer
 ex:=[]
 calm:=true
 fn:=fun _=>false
 pn:=[]
 xe:=fun e s'=>j6 (r0 P w) (A.deeper (lD qual scope s.heap.objs.size f cd cl)) (nH (lD qual scope s.heap.objs.size f cd cl) e) (fun _ s''=>cj P w outer H s E e s'') (fun e' s''=>cj P w outer H s E e' s'') s'
section
variable {P:i8}{w:t9}{K:j7}{mg:Str->Option b9}{base:Heap}{N:List Str}{qual:Str}{scope:M8}{f:Addr}{cd:b9}{cl:List (Str × Addr)}{A:y7}{outer:List Env}{s₀:f6}{H₀:Hp}{E:XK}
theorem gW:du (cj P w) (qc P w K mg base N qual scope f cd cl A outer s₀ H₀ E) E:=by
 intro pins σ H s e s' I h
 obtain⟨a,C,H',rfl,F,hE⟩:=h
 obtain⟨T,x,n1,n2,n3,n4⟩:=F.exc
 have I':=I.call' (ch:=[]) F.os F.un F.hok F.bare (fun b z=>absurd z (by simp))
 exact uc I' rfl rfl rfl x (dY I.base n1) (fun T' z=>by cases z;exact dY I.base n2) n3 (fun T' z=>by cases z;exact n4) fun s'' F'=>⟨a,C,H',rfl,F',hE⟩
end
def FW (cl:List (Str × Addr)) (scope:M8) (N:List Str) (H:Hp) (σ:St):Prop:=σ.length=N.length /\
 ∀(i:Nat) (x:Str) (v:V),N[i]?=some x->σ[i]?=some (some v)->scope.names.lookup x=some .free/\∃c oc u,cl.lookup x=some c/\H c=some (KN oc)/\oc.data=.cell (some u)/\G9 v u
structure lz (cl:List (Str × Addr)) (scope:M8):Prop where
 kind:scope.kind=.function
 co:scope.isCoroutine=false
 gen:scope.isGenerator=false
 nocell:∀x∈scope.names,x.2≠.cell
 inj:∀x y c,cl.lookup x=some c->cl.lookup y=some c->x=y
 has:∀x,scope.names.lookup x=some .free->∃c,cl.lookup x=some c
theorem dc {α:Type}:∀{l:List (Str × α)}{x:Str}{c:α},l.lookup x=some c->∃y,(y,c)∈l/\y=x
 | [],_,_,h=>by cases h
 | (y,d)::r,x,c,h=>by
  by_cases z:(x == y)=true
  ·rw[F8,z] at h
   cases h
   exact⟨y,f9,(beq_iff_eq.mp z).symm⟩
  ·rw[F8,Bool.eq_false_iff.mpr z] at h
   obtain⟨y',m,e⟩:=dc h
   exact⟨y',i4 _ m,e⟩
theorem lz.nc (S:lz cl scope) (h:scope.names.lookup x=some .cell):False:=by
 obtain⟨y,m,_⟩:=dc h
 exact S.nocell _ m rfl
theorem fnL {k:Nat}{f c:Addr}{qual:Str}{params:bP}{body:Expr}{pm ct:b9}{N:List Str}
  (S:lz cl scope)
  (hsp:∀vs H Q E,sp vs H Q E->vs=[]/\H f=some (KN (BU name qual params body scope cl pm c ct))/\Ah qual H c/\wz cl H/\∃σ,FW cl scope N H σ /\
   ∀(A:y7) (outer:List Env) (s:f6),Y9 k (A.deeper (lD qual scope s.heap.objs.size f (.ref c) cl))->∃t,PE (qc P w K mg base N qual scope f (.ref c) cl A outer s (bH cl H) (fun C d H'=>E C d (vw cl H H'))) body t/\t σ (bH cl H) (fun v H'=>Q v (vw cl H H'))):
  G7 P w K mg base (cj P w) (k+1) f (PH name qual params body scope cl pm (.ref c) ct) [] sp:=by
 refine⟨fun vs H Q E q=>by rw[(hsp vs H Q E q).1];rfl,fun A outer s H args us vs Q E hr e0 hb r hq=>?_⟩
 obtain⟨rfl,hf,⟨oc,cvs,t,hc,hcd,hcv⟩,ck,σ,hσ,hrun⟩:=hsp _ _ _ _ hq
 have lim:s.heap.NoLimit:=e0.mod.nolimit.keeps fun b o e=>(e0.bs b o e).1
 have gf:=e0.hok.kn hf
 have gc:=e0.hok.kn hc
 refine W.kla_callFunE hr.depth gf rfl S.co S.gen rfl ⟨c,oc,cvs,t,rfl,gc,hcd,hcv⟩ (hb _ _ _ _ ?_)
 refine wpAny_newFunctionEnv S.nocell (fun x hx=>absurd hx (by simp)) (fun h1 hns hsb=>⟨lim.fresh _ hsb,?_⟩) S.kind
 show U8 _ _ (.expr body (lD qual scope s.heap.objs.size f (.ref c) cl)) _ _
 have hk1:∀b o,s.heap.get? b=some o->h1.get? b=some o:=fun b o e=>hsb.extBut b o (m9 (i5 e)) (d9 _ e)
 obtain⟨tt,hbody,ht⟩:=hrun A outer s (hr.deeper _)
 have hfs:∀b∈dz outer,H b=none:=e0.frf
 have ok0:=EF e0.hok ck
 have noff:∀b,H b=none->bH cl H b=none:=fun b n=>by
  by_cases z:fN cl b
  ·exact fk z
  ·rw[M7 z];exact n
 have nL:∀x d,cl.lookup x=some d->d<s.heap.objs.size/\∃oc v,s.heap.get? d=some oc/\oc.data=.cell v:=fun x d e=>by
  obtain⟨oc,v,q,dd⟩:=ck x d e
  have g:=e0.hok.kn q
  exact⟨i5 g,oc,v,g,dd⟩
 have I:C0 (qc P w K mg base N qual scope f (.ref c) cl A outer s (bH cl H) (fun C d H'=>E C d (vw cl H H'))) [] σ (bH cl H) { s with heap:=h1,toks:=s.toks+([]:List (Str × b9)).length }:=by
  have noA:∀b:Addr,b ∉ (qc P w K mg base N qual scope f (.ref c) cl A outer s (bH cl H) (fun C d H'=>E C d (vw cl H H'))).ex:=fun b z=>absurd (show b∈([]:List Addr) from z) (by simp)
  refine⟨⟨e0.mod,S.kind,rfl,rfl,i9 _,S.inj,fun y hy=>?_,fun y d hy _=>absurd (show false=true from hy) (by simp),fun _=>hr.hd,yX e0.frames,.inr ⟨rfl,rfl⟩,fun b z=>absurd z (noA b),fun b o e=>⟨(e0.bs b o e).1,noff b (e0.bs b o e).2⟩,e0.bsz,fun b _ _=>noA b,fun b z=>absurd z (noA b),e0.funs,fun b hb=>noff b (e0.frf b hb)⟩,
   rfl,e0.bare,Un.kept hk1,⟨_,hns,fun i y v h1' h2 h3=>?_⟩,fun y d h=>?_,noff _ (e0.hok.fresh (i9 _)),fun y d h=>fk ⟨y,h⟩,fun p hp=>absurd (show p∈([]:List (Addr × Obj)) from hp) (by simp),ok0.kept hk1,hσ.1⟩
  ·have hy':scope.names.lookup y=some .cell ∨ scope.names.lookup y=some .free:=hy
   rcases hy' with hy'|hy'
   ·exact(S.nc hy').elim
   ·exact S.has y hy'
  ·obtain⟨kf,d,oc',u,e1,e2,e3,rv⟩:=hσ.2 i y v h1' h2
   exact⟨u,rv,.inr ⟨.inr kf,d,e1,oc',hk1 _ _ (e0.hok.kn e2),e3⟩⟩
  ·obtain⟨_,oc',v,g,dd⟩:=nL y d h
   exact⟨v,oc',hk1 _ _ g,dd⟩
 refine W.kla_codeExpr (B5 (hbody [] _ σ (bH cl H) _ I ht) (fun u s' ⟨v,H',J,rv,q⟩=>?_) fun e s' hx=>?_)
 ·exact⟨v,vw cl H H',J.os,J.bare,Jf J.base e0.hok ck hfs,Fn J.base e0.hok J.hok ck hfs,rv,q⟩
 ·have conv:∀e s'',cj P w outer (bH cl H) s (fun C d H'=>E C d (vw cl H H')) e s''->cj P w outer H s E e s'':=fun e s'' h=>by
   obtain⟨a,C,H',rfl,F,hE⟩:=h
   obtain⟨T,x,n1,n2,n3,n4⟩:=F.exc
   have nC:∀b,s.heap.get? b=none->¬ fN cl b:=fun b n ⟨x,z⟩=>by
    obtain⟨_,oc',v,g,_⟩:=nL x b z
    rw[n] at g;cases g
   exact⟨a,C,vw cl H H',rfl,⟨F.os,F.bare,Jf F.un e0.hok ck hfs,Fn F.un e0.hok F.hok ck hfs,T,x,n1,n2,by rw[bR (nC a n1)];exact n3,by rw[bR (nC T n2)];exact n4⟩,hE⟩
  exact B5 hx (fun _ s'' h=>conv e s'' h) fun e' s'' h=>conv e' s'' h
structure ky (X:Cx) (σ:St) (H Hf:Hp):Prop where
 out:∀b,¬ fN X.env.cells b->Hf b=H b
 none:∀b,fN X.env.cells b->H b=none
 cell:wz X.env.cells Hf
 val:∀(i:Nat) (x:Str) (v:V),X.N[i]?=some x->σ[i]?=some (some v)->(X.env.kindOf x=some .cell ∨ X.env.kindOf x=some .free)->∃c oc u,X.env.cells.lookup x=some c/\Hf c=some (KN oc)/\oc.data=.cell (some u)/\G9 v u
open Classical in
noncomputable def ko (cl:List (Str × Addr)) (h:Heap) (H:Hp):Hp:=fun b=>if fN cl b then (h.get? b).map (fun o=>KN o) else H b
theorem C0.frz {X:Cx}{pins:List (Addr × Obj)}{σ:St}{H:Hp}{s:f6} (I:C0 X pins σ H s):ky X σ H (ko X.env.cells s.heap H)/\bU X.prog X.w (ko X.env.cells s.heap H) s.heap:=by
 have hin:∀b,fN X.env.cells b->∃o v,s.heap.get? b=some o/\o.data=.cell v/\ko X.env.cells s.heap H b=some (KN o):=fun b z=>by
  obtain⟨x,zx⟩:=z
  obtain⟨v,o,e,d⟩:=I.cell x b zx
  refine⟨o,v,e,d,?_⟩
  unfold ko
  rw[if_pos ⟨x,zx⟩,e]
  rfl
 have hout:∀b,¬ fN X.env.cells b->ko X.env.cells s.heap H b=H b:=fun b z=>by unfold ko;rw[if_neg z]
 have hno:∀b,fN X.env.cells b->H b=none:=fun b ⟨x,z⟩=>I.freeC x b z
 refine⟨⟨hout,hno,fun x c z=>?_,fun i x v h1 h2 h3=>?_⟩,fun b o e=>?_⟩
 ·obtain⟨o,v,_,d,q⟩:=hin c ⟨x,z⟩
  exact⟨o,v,q,d⟩
 ·obtain⟨m,hn,hl⟩:=I.loc
  obtain⟨u,r,lk⟩:=hl i x v h1 h2 (by rcases h3 with h3|h3;exact .inr (.inl h3);exact .inr (.inr h3))
  rcases lk with ⟨z,_⟩|⟨_,c,e,oc,g,d⟩
  ·rw[z] at h3
   rcases h3 with h3|h3 <;> cases h3
  ·obtain⟨o,v',g',d',q⟩:=hin c ⟨x,e⟩
   rw[g] at g';cases g'
   exact⟨c,oc,u,e,q,d,r⟩
 ·by_cases z:fN X.env.cells b
  ·obtain⟨o',v,g,d,q⟩:=hin b z
   rw[q] at e;cases e
   exact rG g
  ·rw[hout b z] at e
   refine (I.hok b o e).stay (fun _ _ _ q=>q) (fun c q=>?_) fun c xs q=>?_
   ·rw[hout c (fun zc=>by rw[hno c zc] at q;cases q)];exact q
   ·rw[hout c (fun zc=>by rw[hno c zc] at q;cases q)];exact q
def CM (X:Cx) (sp:Sp) (t:TA):TE:=fun σ H Q=>t σ H fun vs H1=>∀Hf,ky X σ H1 Hf->sp vs Hf (fun v H'=>Q v (bH X.env.cells H')) E0
variable {e:Expr}
theorem Eo {k:Nat}{f:Addr}{fd:A9}{p:Pos}{es:List Expr}{t:TA} (F:G7 X.prog X.w X.K X.mg X.base cQ k f fd ps sp) (hr:Y9 k X.A) (hg:Gl X x) (hm:X.mg x=some (.ref f)) (hk:Y6 X.K (.ref f)=true) (hb:bc X.K fd ps [])
  (hfn:∀y,X.fn y=true:=by intro y;rfl)
  (ha:PA X (e::es) t) (hdb:(x == ("__debug__":Str))=false:=by decide) (he:A2 (e::es) X.env=(false,eval e X.env)::A2 es X.env:=by rfl) (hpl:(V2 pos (A2 es X.env)).any (·.1)=false:=by rfl):
  PE X (.Call (.Name x p) (e::es) [] pos) (CM X sp t):=by
 intro pins s σ H Q I h
 refine X4 (jt I hg hm ?_ hdb)
 refine Ci (h₀:=X.base) I.ok.mod.kin hk (P1 (ha pos pins s σ H _ I h) fun us s1 ⟨vs,H1,I1,r,q⟩=>⟨I1.kIn,?_⟩) he hpl
 obtain⟨fz,hokf⟩:=I1.frz
 have q':=q _ fz
 have r2:G6 (vs++[]) (us++[]):=r.append .nil
 have hl:(us++[]).length=ps.length:=by rw[<- r2.length,S8];exact F.len _ _ _ _ q'
 have e0:=I1.env0
 have nof:∀b o,X.base.get? b=some o->¬ fN X.env.cells b:=fun b o eb ⟨y,z⟩=>absurd (y9 (i5 eb) I.ok.bsz) (iB (I.ok.cab y b (hfn y) z))
 have hfr:∀b∈dz X.stack,¬ fN X.env.cells b:=fun b hb ⟨y,z⟩=>by
  rcases List.mem_cons.mp (I1.stkSub b hb) with e|hb
  ·exact I1.cne y b z e
  ·obtain⟨_,o,ho,_⟩:=I1.ok.funs.mem hb
   exact absurd (i5 ho) (iB (I.ok.cab y b (hfn y) z))
 have e1:wu X.prog X.w X.K X.mg X.base X.A X.stack s1 (ko X.env.cells s1.heap H1):=⟨e0.frames,e0.mod,fun b o eb=>⟨(e0.bs b o eb).1,by rw[fz.out b (nof b o eb)];exact(e0.bs b o eb).2⟩,e0.bsz,e0.funs,fun b hb=>by rw[fz.out b (hfr b hb)];exact e0.frf b hb,hokf,e0.bare⟩
 refine ip (aE (F.run X.A X.stack s1 _ ⟨us,[]⟩ us vs _ E0 hr e1 (by have z:=hb s1 us I1.kIn hl;rw[S8] at z;exact z) r q') fun res s' hq=>?_)
 cases res with
 | error e=>exact D6 hq
 | ok fl =>
  cases fl with
  | ret u =>
   obtain⟨v,H',os,bare,un,hok,rv,qq⟩:=hq
   obtain⟨un',hok'⟩:=JW (H:=H1) un hokf hok fz.cell fz.none fz.out
   exact I1.after ⟨v,_,os,bare,un',hok',rv,qq⟩
  | next=>exact D6 hq
  | brk=>exact D6 hq
  | cont=>exact D6 hq
abbrev TJ:=St->Hp->(Hp->Prop)->Prop
noncomputable def PJ (X:Cx) (es:List Expr) (n:Nat) (t:TJ):Prop :=
 ∀(acc:Str),acc.length<=n->∀(pins:List (Addr × Obj)) (s:f6) (σ:St) (H:Hp) (Q:Hp->Prop),C0 X pins σ H s->t σ H Q ->
  j6 (r0 X.prog X.w) X.A (nJ acc (sd es X.env)) (fun u s'=>∃z H',C0 X pins σ H' s'/\G9 (.str z) u/\Q H') X.xe s
section
variable {X:Cx}{es:List Expr}{n:Nat}{t:TJ}
theorem xV (h:n<=i7:=by decide):PJ X [] n (fun _ H Q=>Q H):=by
 intro acc ha pins s σ H Q I q
 exact joinParts_nil (s:=s) ⟨acc,H,I.tok _,⟨_,rfl⟩,q⟩ (j9 ha h)
variable {pos:Pos}
theorem lW {x:Str}{j:Nat}(h:PJ X es (n+x.length) t) (hz:n+x.length<=i7:=by decide):PJ X (.Constant (.str x) j pos::es) n t:=by
 intro acc ha pins s σ H Q I q
 show j6 _ _ (nJ acc (eval (.Constant (.str x) j pos) X.env::sd es X.env)) _ _ _
 refine ng (lG ⟨?_,?_⟩)
 ·rw[B4];lia
 ·exact h (acc++x) (by rw[B4];lia) pins _ σ H Q (I.tok _) q
theorem tJ {e:Expr}{te:TE}(he:PE X e te) (h:PJ X es (n+100) t) (hz:n+100<=i7:=by decide):
  PJ X (.FormattedValue e (-1) none pos::es) n (fun σ H Q=>te σ H fun v H1=>∃i:Int,v=.int i/\i.natAbs.log2<1920/\(toString i:Str).length<=100/\t σ H1 Q):=by
 intro acc ha pins s σ H Q I q
 show j6 _ _ (nJ acc (eval (.FormattedValue e (-1) none pos) X.env::sd es X.env)) _ _ _
 refine ng (JQ (P1 (he pins s σ H _ I q) fun u s1 ⟨v,H1,I1,r,i,ev,hl,hz',q1⟩=>?_))
 subst ev
 obtain⟨tk,rfl⟩:=r
 refine IY hl ⟨?_,?_⟩
 ·rw[B4];lia
 ·exact h _ (by rw[B4];lia) pins _ σ H1 Q (I1.tok _) q1
theorem tN {v1 v2:Expr}{V3:List Expr}(h:PJ X (v1::v2::V3) 0 t):PE X (.JoinedStr (v1::v2::V3) pos) (fun σ H Q=>t σ H fun H1=>∀z,Q (.str z) H1):=by
 intro pins s σ H Q I q
 exact JoinedStr_many (P1 (h V6 (i9 _) pins s σ H _ I q) fun u s1 ⟨z,H1,I1,r,q1⟩=>⟨.str z,H1,I1,r,q1 z⟩)
end
theorem lZ :du (cj P w) X E0:=fun _ _ _ _ _ _ _ h=>by
 obtain⟨_,_,_,_,_,z⟩:=h
 exact z.elim
section
variable {P:i8}{w:t9}{K:j7}{mg:Str->Option b9}{base:Heap}
theorem Y3.okX {x qual:Str}{st:Stmt}{f:Addr}{fd:A9}{N ps:List Str}{k:Nat}{sp:Sp} (F:Y3 K x qual st f fd) (S:B1 N ps (r6 st)) (len:∀vs H Q E,sp vs H Q E->vs.length=ps.length)
  (hbody:∀(cdv:b9) (A:y7) (outer:List Env) (s:f6) (H:Hp) (vs:List V) (Q:VK) (E:XK),Y9 k (A.deeper (Y5 qual (r6 st) s.heap.objs.size f cdv))->sp vs H Q E ->
   ∃t,qu (dU (cj P w) P w K mg base N qual (r6 st) f cdv A outer s H E) (V1 st) t/\t { nx:=fun _ H'=>Q .non H',rt:=Q } (start N vs) H):G7 P w K mg base (cj P w) (k+1) f fd ps sp:=by
 obtain⟨oc,od,kV,doc,pm,an,cdv,ct,osl,rfl,lk,hcd⟩:=F.ex
 exact Fu lk hcd S len fun A outer s H vs Q E hr hsp=>hbody cdv A outer s H vs Q E hr hsp
theorem Y3.okC {x qual:Str}{st:Stmt}{f:Addr}{fd:A9}{N ps:List Str}{k:Nat}{sp:Sp} (F:Y3 K x qual st f fd) (S:B1 N ps (r6 st)) (len:∀vs H Q E,sp vs H Q E->vs.length=ps.length)
  (hbody:∀(cdv:b9) (A:y7) (outer:List Env) (s:f6) (H:Hp) (vs:List V) (Q:VK) (E:XK),fd.code=cdv->Y9 k (A.deeper (Y5 qual (r6 st) s.heap.objs.size f cdv))->sp vs H Q E ->
   ∃t,qu (dU cQ P w K mg base N qual (r6 st) f cdv A outer s H E).nox (V1 st) t/\t { nx:=fun _ H'=>Q .non H',rt:=Q } (start N vs) H):G7 P w K mg base cQ (k+1) f fd ps sp:=by
 obtain⟨oc,od,kV,doc,pm,an,cdv,ct,osl,rfl,lk,hcd⟩:=F.ex
 refine Fu lk hcd S len fun A outer s H vs Q E hr hsp=>?_
 obtain⟨t,h,q⟩:=hbody cdv A outer s H vs Q E rfl hr hsp
 exact⟨t,h.nox,q⟩
end
section
variable {P:i8}{w:t9}{K:j7}{mg:Str->Option b9}{base:Heap}{N:List Str}{qual:Str}{scope:M8}{f:Addr}{cd:b9}{A:y7}{outer:List Env}{s₀:f6}{H₀:Hp}{E:XK}
theorem U0 {x:Str}{C:Addr}{e:Expr}{te:TE}{np cpos pos:Pos} (hm:mg x=some (.ref C)) (hc:XC K C) (he:PE (dU (cj P w) P w K mg base N qual scope f cd A outer s₀ H₀ E) e te)
  (hmono:∀σ H (Q Q':VK),(∀v H1,Q v H1->Q' v H1)->te σ H Q->te σ H Q')
  (hg:Gl (dU (cj P w) P w K mg base N qual scope f cd A outer s₀ H₀ E) x:=by rfl)
  (hdb:(x == ("__debug__":Str))=false:=by decide)
  (hst:A2 [e] (Y5 qual scope s₀.heap.objs.size f cd)=(false,eval e (Y5 qual scope s₀.heap.objs.size f cd))::A2 [] (Y5 qual scope s₀.heap.objs.size f cd):=by rfl):
  PS (dU (cj P w) P w K mg base N qual scope f cd A outer s₀ H₀ E) (.Raise (some (.Call (.Name x np) [e] [] cpos)) none pos) (fun _ σ H=>te σ H fun _ H1=>E (.ref C) none H1):=by
 have h:=DX (E:=E) (pos:=pos) (np:=np) (cpos:=cpos) (t:=Ji te Kf) hg hm hc (b8 he f7 (hs:=hst)) (i9 _) hdb hst rfl (fun σ H Q q=>hmono _ _ _ _ (fun v H1 z=>⟨by show 1<=i7;decide,z⟩) q)
 exact h
end
def FU (ts:List Addr) (H:Hp):Prop:=(∀b,H b=none ∨ (∃o xs,H b=some (.frz o (.lst xs))) ∨ (b∈ts/\H b=some (.tbl #[])))/\∀T∈ts,H T=some (.tbl #[])
theorem Bh {mb:Str->Option b9}{k:Nat}{fa:Addr}{fd:A9}{s1:f6}{vs:List b9}{ts:List Addr}
  (KX:K.In s1.heap) (hns:s1.heap.Ns u6 mg) (hb:s1.heap.Ns kH mb) (hbb:∀x:Str,x≠"__name__"->mb x=Z1 x) (hlim:s1.heap.NoLimit) (hg:s1.gens=#[])
  (hbm:∃bm ob,mg "__builtins__"=some (.ref bm)/\bm≠kH/\s1.heap.get? bm=some ob/\ob.cls=.type "module"/\ob.dict=some kH/\ob.data=.plain)
  (ha:s1.heap.get? a=some { cls:=.type "list",data:=.seq vs.toArray }) (hi:cN vs ns) (hl:ns.length<=i7) (hr:Y9 k si)
  (tabs:∀T∈ts,s1.heap.get? T=some (GG #[])/\isCodeTable s1.heap T/\K.lookup T=none)
  (F:∀base:Heap,K.In base->base.Ns u6 mg->(∀T∈ts,base.BuiltinsAt mg T)->G7 P w K mg base cQ k fa fd [x] sp) (hbind:∀(s:f6) (u:b9),sy s fd ⟨[u],[]⟩ [(x,u)])
  (hsp:∀H:Hp,FU ts H->fM K H a (ns.map V.int)->sp [.ref a] H (fun v _=>v=.bl true) fun _ _ _=>False):
  U8 (r0 P w) si (.call (.ref fa) ⟨[.ref a],[]⟩) (fun r s'=>r=.ok (.ret (.bool true))/\OldK s1.heap s'.heap/\s'.os=s1.os/\jk s'.gens) s1:=by
 have rv:=qV hi
 have lenV:=hi.length
 have aT:a ∉ ts:=fun z=>by
  have e:=(tabs a z).1
  rw[ha] at e;cases e
 have core:∀H:Hp,FU ts H->fM K H a (ns.map V.int)->bU P w H s1.heap->(∀b,H b≠none->b=a ∨ b∈ts)->(H a≠none->K.lookup a=none) ->
   U8 (r0 P w) si (.call (.ref fa) ⟨[.ref a],[]⟩) (fun r s'=>r=.ok (.ret (.bool true))/\OldK s1.heap s'.heap/\s'.os=s1.os/\jk s'.gens) s1:=by
  intro H hO hS hok hA hK
  have base_of:∀{b:Addr}{o:Obj},s1.heap.get? b=some o->H b=none->(qL s1.heap H).get? b=some o:=fun e n=>Fo e n
  have noB:∀{b:Addr}{o:Obj},s1.heap.get? b=some o->(∀xs n,o.data≠.seq xs n)->(∀xs,o.data≠.fields xs)->H b=none:=fun {b o} e d1 d2=>by
   cases q:H b with
   | none=>rfl
   | some u =>
    rcases hA b (by rw[q];simp) with e'|e'
    ·subst e'
     rw[ha] at e;cases e
     exact absurd rfl (d1 _ _)
    ·rw[(tabs b e').1] at e;cases e
     exact absurd rfl (d2 _)
  have noA:∀{b:Addr}{o:Obj}{es:Array M6}{ep:Nat},s1.heap.get? b=some o->o.data=.dict es ep->H b=none:=fun {b o es ep} e d =>
   noB e (fun xs n z=>by rw[d] at z;cases z) (fun xs z=>by rw[d] at z;cases z)
  have nsK:∀{b:Addr}{m:Str->Option b9},s1.heap.Ns b m->(qL s1.heap H).Ns b m:=fun {b m} ⟨o,es,ep,e,d,r⟩=>⟨o,es,ep,base_of e (noA e d),d,r⟩
  have hKb:K.In (qL s1.heap H):=fun b o e=>base_of (KX b o e) (by
   cases q:H b with
   | none=>rfl
   | some u =>
    rcases hA b (by rw[q];simp) with e'|e'
    ·subst e'
     rw[hK (by rw[q];simp)] at e;cases e
    ·rw[(tabs b e').2.2] at e;cases e)
  have hM:Mod K mg (qL s1.heap H):=⟨hKb,nsK hns,⟨mb,nsK hb,hbb⟩,let ⟨mc,h1,h2⟩:=hlim;⟨mc,nsK h1,h2⟩⟩
  have hBM:∀T∈ts,(qL s1.heap H).BuiltinsAt mg T:=fun T hT=>by
   obtain⟨bm,ob,b1,b2,b3,b4,b5,b6⟩:=hbm
   refine⟨bm,ob,b1,b2,fun z=>?_,fun z=>?_,base_of b3 (noB b3 (fun xs n z=>by rw[b6] at z;cases z) (fun xs z=>by rw[b6] at z;cases z)),b4,b5,b6⟩
   ·obtain⟨o,es,ep,e,d,_⟩:=hns
    rw[<- z,b3] at e;cases e
    rw[b6] at d;cases d
   ·rw[z,(tabs T hT).1] at b3;cases b3;cases b4
  have e0:wu P w K mg (qL s1.heap H) si [] s1 H:=⟨rfl,hM,fun b o e=>HQ e,Az (Bo _ _),trivial,fun b hb=>absurd (show b∈([]:List Addr) from hb) (by simp),hok,.of_eq hg⟩
  refine aE ((F _ hKb (nsK hns) hBM).run si [] s1 H ⟨[.ref a],[]⟩ [.ref a] [.ref a] _ _ hr e0 (hbind s1 (.ref a)) (.cons rfl .nil) (hsp H hO hS)) fun r s' h=>?_
  cases r with
  | error e=>exact D6 h
  | ok fl =>
   cases fl with
   | next=>exact D6 h
   | brk=>exact D6 h
   | cont=>exact D6 h
   | ret u =>
    obtain⟨v,H',os,bare,un,hok',r',q⟩:=h
    have q':v=.bl true:=q
    subst q'
    obtain rfl:u=P3 true:=r'
    refine⟨rfl,⟨fun b o e=>?_,fun b o e=>un.there b o e (by simp)⟩,os,bare⟩
    cases q:H b with
    | none=>exact .inl (un.keep b o e q (by intro z;exact absurd (show b∈([]:List Addr) from z) (by simp)) (by simp))
    | some u =>
     rcases hO.1 b with z|⟨ob,xs,z⟩|⟨hT,z⟩
     ·rw[q] at z;cases z
     ·have z2:=un.frzs b ob _ z
      obtain⟨e1,_⟩:=hok b _ z
      obtain⟨e2,_⟩:=hok' b _ z2
      rw[e] at e1;cases e1
      exact .inl e2
     ·obtain⟨more,z2⟩:=un.tbls b _ z
      have e1:s1.heap.get? b=some { cls:=.none,data:=.fields #[] }:=hok b _ z
      have e2:s'.heap.get? b=some { cls:=.none,data:=.fields (#[]++more) }:=hok' b _ z2
      rw[e] at e1;cases e1
      exact .inr (.inl ⟨(tabs b hT).2.1,rfl,#[],more,rfl,e2⟩)
 have tabOk:∀(H:Hp) (T:Addr),T∈ts->P2 P w H s1.heap T (.tbl #[]):=fun H T hT=>(tabs T hT).1
 cases hk:K.lookup a with
 | some o =>
  have e:=KX a o hk
  rw[ha] at e
  cases e
  refine core (fun b=>if b∈ts then some (.tbl #[]) else none) ⟨fun b=>?_,fun T hT=>if_pos hT⟩ (.inr ⟨_,vs.toArray,_,hk,rfl,rfl,rfl,by rw[A0,lenV];exact hl,by simpa using rv⟩) (fun b u z=>?_) (fun b z=>?_) fun z=>absurd (if_neg aT) z
  ·by_cases hb:b∈ts
   ·exact .inr (.inr ⟨hb,if_pos hb⟩)
   ·exact .inl (if_neg hb)
  ·by_cases hb:b∈ts
   ·have z':=(if_pos hb).symm.trans z
    cases z'
    exact tabOk _ b hb
   ·have z':=(if_neg hb).symm.trans z
    cases z'
  ·by_cases hb:b∈ts
   ·exact .inr hb
   ·exact absurd (if_neg hb) z
 | none =>
  refine core (fun b=>if b=a then some (.frz { cls:=.type "list",data:=.seq vs.toArray } (.lst (ns.map V.int))) else if b∈ts then some (.tbl #[]) else none) ⟨fun b=>?_,fun T hT=>?_⟩ (.inl (.inr ⟨{ cls:=.type "list",data:=.seq vs.toArray },if_pos rfl⟩)) (fun b u z=>?_) (fun b z=>?_) fun _=>hk
  ·by_cases hb:b=a
   ·exact .inr (.inl ⟨_,_,if_pos hb⟩)
   ·by_cases hc:b∈ts
    ·exact .inr (.inr ⟨hc,(if_neg hb).trans (if_pos hc)⟩)
    ·exact .inl ((if_neg hb).trans (if_neg hc))
  ·exact(if_neg (fun z=>aT (by rw[<- z];exact hT))).trans (if_pos hT)
  ·by_cases hb:b=a
   ·have z':=(if_pos hb).symm.trans z
    cases z'
    subst hb
    exact⟨ha,by rw[d8];exact hl,vs,_,rv,ha⟩
   ·have z':=(if_neg hb).symm.trans z
    by_cases hc:b∈ts
    ·have z2:=(if_pos hc).symm.trans z'
     cases z2
     exact tabOk _ b hc
    ·have z2:=(if_neg hc).symm.trans z'
     cases z2
  ·by_cases hb:b=a
   ·exact .inl hb
   ·by_cases hc:b∈ts
    ·exact .inr hc
    ·exact absurd ((if_neg hb).trans (if_neg hc)) z
theorem CC {l:Nj}{k:Nat}{q:i8}{loose:List Str}{XP:(Str->Option b9)->Heap->Prop}{YP:t9->Heap->Prop}{d:DefRec}{K:Params->j7}{sp:t9->Sp}{ts:List Addr}
  (hn:l.most=some n) (hn2:n<=i7) (hdf:d.params.defaults=[]) (hr:Y9 k si)
  (hY:∀(w:t9) (h:Heap),YP w h->(K w.params).In h) (hT:∀(w:t9) (h:Heap),YP w h->∀T∈ts,h.get? T=some (GG #[]))
  (F:∀(w:t9) (mg:Str->Option b9) (fa:Addr) (h:Heap),(K w.params).In h->h.Ns u6 mg->mg d.name=some (.ref fa) ->
   ∃fd:A9,(∀(s:f6) (u:b9),sy s fd ⟨[u],[]⟩ [(x,u)])/\(∀T∈ts,(K w.params).lookup T=none/\∃c,ee (K w.params) c T=true) /\
    ∀base:Heap,(K w.params).In base->base.Ns u6 mg->(∀T∈ts,base.BuiltinsAt mg T)->G7 l.prog w (K w.params) mg base cQ k fa fd [x] (sp w))
  (hsp:∀(w:t9) (H:Hp) (a:Addr) (ns:List Int),ns.length<=n->FU ts H->fM (K w.params) H a (ns.map V.int)->sp w [.ref a] H (fun v _=>v=.bl true) fun _ _ _=>False):
  W.WalkO q loose XP YP l.row.toRowW d [] (fun f vs=>Ck f vs):=by
 refine Att.wg hn hdf fun w s₀ s₁ mg mb fa o pm cd doc a vs ns G Y ho hd hcd hmg hobj hints hlen hg=>?_
 have KX:=hY w _ Y
 obtain⟨fd,hb,ht,hF⟩:=F w mg fa _ KX G.T.g hmg
 refine Bh KX G.T.g G.T.b G.T.builtins G.T.nolimit hg G.T.bmain hobj hints (j9 hlen hn2) hr (fun T hm=>?_) hF hb (fun H hO hS=>hsp w H a ns hlen hO hS)
 obtain⟨h1,c,h2⟩:=ht T hm
 have hP:=hT w _ Y T hm
 exact⟨hP,((nK KX h2).tab hP).isCodeTable,h1⟩
structure O9 (P:i8) (w:t9) (K:j7) (mg:Str->Option b9) (base:Heap) (k:Nat) (x:Str) (ps:List Str) (sp:Sp):Prop where
 ex:∃f fd,mg x=some (.ref f)/\Y6 K (.ref f)=true/\bc K fd ps []/\G7 P w K mg base (cj P w) k f fd ps sp
theorem O9.up {j k:Nat}(C:O9 P w K mg base j x ps sp) (h:j<=k):O9 P w K mg base k x ps sp :=
 let ⟨f,fd,a,b,c,d⟩:=C.ex;⟨f,fd,a,b,c,d.mono h⟩
def tCx (sp:Sp) (E:XK) (t:TA):TE:=fun σ H Q=>t σ H fun vs H1=>sp vs H1 Q E
section
variable {X:Cx}{k:Nat}{x:Str}{ps:List Str}{sp:Sp}{p pos:Pos}{e:Expr}{es:List Expr}{t:TA}{E:XK}
theorem G1 (C:O9 X.prog X.w X.K X.mg X.base k x ps sp) (hr:Y9 k X.A) (hg:Gl X x) (hx:du (cj X.prog X.w) X E) (ha:PA X (e::es) t)
  (hdb:(x == ("__debug__":Str))=false:=by decide) (he:A2 (e::es) X.env=(false,eval e X.env)::A2 es X.env:=by rfl) (hpl:(V2 pos (A2 es X.env)).any (·.1)=false:=by rfl):
  PE X (.Call (.Name x p) (e::es) [] pos) (tCx sp E t):=by
 obtain⟨f,fd,hm,hk,hb,F⟩:=C.ex
 have h:=zF (x:=x) (p:=p) (pos:=pos) F hr hg hm hk hb .nil hx ha hdb he hpl
 have e:CN sp [] E t=tCx sp E t:=by
  funext σ H Q
  show t σ H (fun vs H1=>sp (vs++[]) H1 Q E)=t σ H (fun vs H1=>sp vs H1 Q E)
  congr 1
  funext vs H1
  rw[S8]
 rw[<- e];exact h
end
structure jA (K:j7) (mg:Str->Option b9) (c:Nat->Addr) (B:Addr):Prop where
 e0:mg "NoUrn"=some (.ref (c 0))
 e1:mg "NoRule"=some (.ref (c 1))
 e2:mg "NoKind"=some (.ref (c 2))
 e3:mg "NoBall"=some (.ref (c 3))
 e4:mg "NoDraws"=some (.ref (c 4))
 e5:mg "NoNumber"=some (.ref (c 5))
 e6:mg "NotEven"=some (.ref (c 6))
 e7:mg "NoCounts"=some (.ref (c 7))
 e8:mg "NotAlike"=some (.ref (c 8))
 e9:mg "BadNote"=some (.ref (c 9))
 eb:mg "UrnError"=some (.ref B)
 xc:∀i,i<10->XC K (c i)
 xi:∀i,i<10->XI K (c i)
 sub:∀i,i<10->wU K (.ref (c i)) (.ref B)=some true
 bb:mD K (.ref B) (.type "BaseException")=some true
 one:∀i j,i<10->j<10->bV K (.ref (c i)) (.ref (c j))=some (decide (i=j))
 val:∀i,i<10->bV K (.ref (c i)) (.type "ValueError")=some true
def Sm (i:Int):Prop:=i.natAbs.log2<1920/\(toString i:Str).length<=100
section
variable {X:Cx}{pins:List (Addr × Obj)}{σ:St}{H:Hp}{s:f6}
theorem C0.bigger (I:C0 X pins σ H s):P7<s.heap.objs.size:=by
 obtain⟨mc,⟨o,es,ep,e,_⟩,_⟩:=I.nolimit
 exact K6 (by decide) (i5 e)
def NH:TE:=fun _ H Q=>∀p,H p=none->Q (.ref p) (A6 H p (.dK []))
theorem zD {pos:Pos}:PE X (.Dict [] [] pos) NH:=fun pins s σ H Q I h =>
 PB ⟨.ref s.heap.objs.size,_,I.laid (a:=s.heap.objs.size) (o:=.dK []) (t':=s.toks) (fun _ _ q=>d9 _ q) (i9 _)
  ⟨A7 _,beq_eq_false_iff_ne.mpr (E8 (m9 I.bigger)),[],.nil,yV s.heap⟩,rfl,h _ (I.hok.fresh (i9 _))⟩
end
section
variable {K:j7}{σ0:St}{te:TE}{H:Hp}{F:List V->Hp->Prop}
theorem qe {a:Addr}{xs:List V} (hn:xs.length<=i7) (Pv:Nat->List V->Hp->Prop) (h0:Pv 0 [] H) (hl:∀i ys H,Pv i ys H->ys.length=i) (hq:∀i ys H,i<=xs.length->Pv i ys H->fM K H a xs) (hσ:σ0[0]?=some none)
  (hs:∀i ys H x,xs[i]?=some x->Pv i ys H->te (σ0.set 0 (some x)) H fun y H'=>Pv (i+1) (ys++[y]) H') (hd:∀ys H,Pv xs.length ys H->F ys H):BN (Mz K a) σ0 (R7 0) T5 te H F:=by
 refine⟨fun i m ys H=>m=xs.length - i/\i<=xs.length/\Pv i ys H,⟨xs.length,by simp,A7 _,h0⟩,?_⟩
 rintro i m ys H2 ⟨rfl,hi,p⟩
 have q:=hq i ys H2 hi p
 refine⟨by rw[hl i ys H2 p];lia,?_⟩
 by_cases hlt:i<xs.length
 ·refine .inr ⟨⟨xs,xs[i],q,by simp[hlt]⟩,fun y H'=>Pv (i+1) (ys++[y]) H',fun _=>False,fun y H' q=>⟨xs.length - (i+1),by lia,rfl,hlt,q⟩,fun _ q=>q.elim,fun x H3 y=>?_⟩
  obtain⟨rfl,y⟩:=y
  exact⟨Wk.set (.inl hσ),hs i ys _ x (y xs q) p⟩
 ·have e:i=xs.length:=by lia
  subst e
  exact .inl ⟨⟨xs,q,i9 _⟩,hd ys H2 p⟩
end
section
variable {X:Cx}{es:List Expr}{te:TE}{t:TA}
end
structure wx (X:Cx):Prop where
 inj:∀x y c,X.env.cells.lookup x=some c->X.env.cells.lookup y=some c->x=y
 has:∀x,(X.env.kindOf x=some .cell ∨ X.env.kindOf x=some .free)->∃c,X.env.cells.lookup x=some c
theorem Li {t:TE} (h:PE X e t):PE X e (fun σ H Q=>wx X->t σ H Q):=fun pins s σ H Q I q=>h pins s σ H Q I (q ⟨I.ok.inj,I.ok.has⟩)
section
variable {X:Cx}{σ:L2.St}{H Hf:Hp}{scope:M8}
theorem wx.closed (Z:wx X) (hf:Y1 scope X.env=true):∀x∈scope.names,x.2=.free->∃c,X.env.cells.lookup x.1=some c:=fun x hx hk=>Z.has x.1 (gX hf hx hk)
theorem wx.sub (Z:wx X) (hf:Y1 scope X.env=true) {x:Str}{c:Addr} (h:(Q6 X.env scope.names []).lookup x=some c):X.env.cells.lookup x=some c:=by
 obtain⟨y,hm,e⟩:=dc h
 subst e
 rcases gq (Z.closed hf) hm with q|q
 ·cases q
 ·exact q
theorem wx.cel (Z:wx X) (hf:Y1 scope X.env=true) {b:Addr} (h:fN (Q6 X.env scope.names []) b):fN X.env.cells b:=let ⟨x,e⟩:=h;⟨x,Z.sub hf e⟩
theorem wx.lsc (Z:wx X) (hf:Y1 scope X.env=true) (k1:scope.kind=.function) (k2:scope.isCoroutine=false) (k3:scope.isGenerator=false) (k4:∀x∈scope.names,x.2≠.cell):lz (Q6 X.env scope.names []) scope :=
 ⟨k1,k2,k3,k4,fun x y c h1 h2=>Z.inj x y c (Z.sub hf h1) (Z.sub hf h2),fun x h=>by
  obtain⟨y,hm,e⟩:=dc h
  subst e
  obtain⟨c,hc⟩:=dZ (env:=X.env) (acc:=[]) hm
  exact aY hc⟩
theorem wx.celk (Z:wx X) (hf:Y1 scope X.env=true) (fz:ky X σ H Hf):wz (Q6 X.env scope.names []) Hf:=fun x c h=>fz.cell x c (Z.sub hf h)
theorem wx.st (Z:wx X) (hf:Y1 scope X.env=true) (fz:ky X σ H Hf) {N:List Str}{ix:List (Option Nat)} (hx:eZ scope X.N N ix=true):FW (Q6 X.env scope.names []) scope N Hf (aA ix σ):=by
 refine⟨by unfold aA;rw[d8];exact kX hx,fun j x v h1 h2=>?_⟩
 obtain⟨i,h3,h4⟩:=vq h2
 obtain⟨y,e1,e2,e3⟩:=kY hx h3
 rw[h1] at e1
 cases e1
 obtain⟨y,hm,e⟩:=dc e3
 subst e
 obtain⟨c,oc,u,c1,c2,c3,c4⟩:=fz.val i y v e2 h4 (gX hf hm rfl)
 obtain⟨d,hd⟩:=dZ (env:=X.env) (acc:=[]) hm
 obtain⟨d',hd'⟩:=aY hd
 have z:=Z.sub hf hd'
 rw[c1] at z
 cases z
 exact⟨e3,c,oc,u,hd',c2,c3,c4⟩
theorem ky.same (fz:ky X σ H Hf):n8 H Hf:=fun b o e=>by rw[fz.out b (fun z=>by rw[fz.none b z] at e;cases e)];exact e
theorem ky.inner (fz:ky X σ H Hf) (Z:wx X) (hf:Y1 scope X.env=true):n8 H (bH (Q6 X.env scope.names []) Hf):=fun b o e=>by
 have nc:¬ fN X.env.cells b:=fun z=>by rw[fz.none b z] at e;cases e
 rw[M7 fun z=>nc (Z.cel hf z)]
 exact fz.same b o e
theorem ky.back (fz:ky X σ H Hf) {H':Hp} (g:n8 Hf H'):n8 H (bH X.env.cells H'):=fun b o e=>by
 have nc:¬ fN X.env.cells b:=fun z=>by rw[fz.none b z] at e;cases e
 rw[M7 nc]
 exact g b o (fz.same b o e)
end
theorem tQ (g:n8 (bH cl H) H'):n8 H (vw cl H H'):=fun b o e=>by
 by_cases z:fN cl b
 ·rw[ya z];exact e
 ·rw[bR z];exact g b o (by rw[M7 z];exact e)
def Jj (P:i8) (w:t9) (K:j7) (mg:Str->Option b9) (base:Heap) (k:Nat) (f c:Addr) (name qual:Str) (params:bP) (body:Expr) (scope:M8) (cl:List (Str × Addr)) (pm ct:b9) (N:List Str):Sp:=fun vs H Q E =>
 vs=[]/\H f=some (KN (BU name qual params body scope cl pm c ct))/\Ah qual H c/\wz cl H/\∃σ,FW cl scope N H σ /\
  ∀(A:y7) (outer:List Env) (s:f6),Y9 k (A.deeper (lD qual scope s.heap.objs.size f (.ref c) cl))->∃t,PE (qc P w K mg base N qual scope f (.ref c) cl A outer s (bH cl H) (fun C d H'=>E C d (vw cl H H'))) body t/\t σ (bH cl H) (fun v H'=>Q v (vw cl H H'))
theorem bJ.kp {q:Str}{l:Addr}{xs:List V} (h:bJ q T H) (hl:H l=some (.lst xs)) (k:Kp l H H'):bJ q T H':=by
 obtain⟨ps,h1,h2,h3⟩:=h
 refine⟨ps,k T _ (fun e=>by rw[e,hl] at h1;cases h1) h1,h2,fun pos v e=>?_⟩
 obtain⟨c,oc,vs,t,e1,e2,e3,e4⟩:=h3 pos v e
 exact⟨c,oc,vs,t,e1,k c _ (fun z=>by rw[z,hl] at e2;cases e2) e2,e3,e4⟩
theorem bJ.same {q:Str}(h:bJ q T H) (g:n8 H H'):bJ q T H':=by
 obtain⟨ps,h1,h2,h3⟩:=h
 refine⟨ps,g _ _ h1,h2,fun pos v e=>?_⟩
 obtain⟨c,oc,vs,t,e1,e2,e3,e4⟩:=h3 pos v e
 exact⟨c,oc,vs,t,e1,g _ _ e2,e3,e4⟩
theorem eM {k:Nat}{p:Pos}{es:List Expr}{t:TA} (C:S6 X.prog X.w X.K X.mg X.base k x ps sp) (hr:Y9 k X.A) (hg:Gl X x) (ha:PA X (e::es) t)
  (hfn:∀y,X.fn y=true:=by intro y;rfl) (hdb:(x == ("__debug__":Str))=false:=by decide) (he:A2 (e::es) X.env=(false,eval e X.env)::A2 es X.env:=by rfl) (hpl:(V2 pos (A2 es X.env)).any (·.1)=false:=by rfl):
  PE X (.Call (.Name x p) (e::es) [] pos) (fun σ H Q=>wx X->CM X sp t σ H Q):=by
 obtain⟨f,fd,hm,hk,hb,F⟩:=C.ex
 exact Li (Eo F hr hg hm hk hb hfn ha hdb he hpl)
section
variable {X:Cx}
end
section
variable {X:Cx}{scope:M8}{N:List Str}{ix:List (Option Nat)}{elt target iter:Expr}{ifs:List Expr}{pos:Pos}{wi:TI}{g:TG}{tc:TT}
end
section
variable {X:Cx}
end
section
variable (P:i8) (w:t9)
end
section
variable {P:i8}{w:t9}{H H':Hp}{h h':Heap}{a:Addr}{o:HO}
end
section
variable {P:i8}{w:t9}{H:Hp}{h h':Heap}{x e:Addr}{o':HO}
end
section
variable {fs fs' ex ex':List Addr}{H H1 H2:Hp}{h h1 h2 h':Heap}{a x e:Addr}{o:HO}
end
section
variable {X:Cx}{pins:List (Addr × Obj)}{σ:List (Option V)}{H H':Hp}{s:f6}{h':Heap}
end
section
variable {X:Cx}
variable {a b:Expr}{ta tb:TE}{pos:Pos}
variable {tA tB':TT}{V3:List Expr}
end
section
variable {X:Cx}{pins:List (Addr × Obj)}{σ:St}{H:Hp}{s:f6}{a:Addr}{xs ys:List V}
end
section
variable {X:Cx}{pins:List (Addr × Obj)}{σ:St}{H:Hp}{s:f6}{E:b9->f6->Prop}
end
section
variable {X:Cx}{st:Stmt}{V3:List Stmt}{t u:TS}{e:Expr}{te:TE}{pos:Pos}
end
section
variable {X:Cx}{pos:Pos}
end
section
variable {X:Cx}{tg:Expr}
end
section
variable {X:Cx}{a b c:Expr}{ta tb tc:TE}{pos:Pos}
end
section
variable {prog:i8}{w:t9}{A:y7}{E:b9->f6->Prop}{s:f6}{K:j7}{x dx C f:Addr}{mA:Str->Option b9}{name:Str}{v:b9}
end
section
variable {P:i8}{w:t9}{H H':Hp}{h h':Heap}{a C dx:Addr}{fs fs':List (Str × V)}
end
section
variable {X:Cx}{pins:List (Addr × Obj)}{σ:St}{H:Hp}{s:f6}{a C dx:Addr}{fs:List (Str × V)}{f:Str}{v:V}{A:y7}{E:b9->f6->Prop}
end
section
variable {X:Cx}{o e value:Expr}{f:Str}{pos pos' tpos:Pos}{ta tv:TE}
end
section
variable {X:Cx}{pins:List (Addr × Obj)}{σ:St}{H:Hp}{s:f6}{A:y7}{E:b9->f6->Prop}{Q:b9->f6->Prop}{c:b9}{b:Bool}
end
section
variable {X:Cx}{e:Expr}{es:List Expr}{te:TE}{t:TA}{pos:Pos}
end
section
variable {X:Cx}{pins:List (Addr × Obj)}{σ:St}{H:Hp}{s s':f6}
end
section
variable {X:Cx}{CX:Ai}{k:Nat}{f C:Addr}{fd:A9}{ps:List Str}{sp:Sp}{dvs:List V}{ds:List b9}{E:XK}{x m:Str}{p pos apos:Pos}{e o:Expr}{es:List Expr}{ta:TE}{t:TA}
end
section
variable {X:Cx}{CX:Ai}{k:Nat}{f C:Addr}{fd:A9}{ps ks:List Str}{sp:Sp}{E:XK}{x m:Str}{p pos apos kpos:Pos}{e o:Expr}{es:List Expr}{kws:List nM}{te ta:TE}{t tk:TA}{nm:Option Str}
variable {g:List b9->List b9->List b9}{gV:List V->List V->List V}
end
section
variable {X:Cx}{x:Str}{p pos:Pos}{e:Expr}{es:List Expr}{t:TA}{id T:String}{r:List V->Hp->VK->Prop}
end
section
variable {κ:Type} [DecidableEq κ]
noncomputable def eD (kvs:List (κ × V)) (k:κ):Option V:=(kvs.find? fun kv=>decide (kv.1=k)).map (·.2)
noncomputable def putK (kvs:List (κ × V)) (k:κ) (v:V):List (κ × V):=
 if (kvs.any fun kv=>decide (kv.1=k))=true then kvs.map (fun kv=>if kv.1=k then (kv.1,v) else kv) else kvs++[(k,v)]
theorem iH {p:κ × V}{r:List (κ × V)}{k:κ} (e:p.1=k):eD (p::r) k=some p.2:=by simp[eD,bO,e]
theorem fU {p:κ × V}{r:List (κ × V)}{k:κ} (e:¬ p.1=k):eD (p::r) k=eD r k:=by simp[eD,bO,e]
theorem om (k:κ):∀kvs:List (κ × V),(kvs.any fun kv=>decide (kv.1=k))=(eD kvs k).isSome
 | []=>rfl
 | p::r=>by
  rw[aw]
  by_cases e:p.1=k
  ·simp only[iH e,decide_eq_true e,Po,BW]
  ·rw[fU e,decide_eq_false e,wK];exact om k r
theorem ja (kvs:List (κ × V)) (k:κ) (v:V):(putK kvs k v).length<=kvs.length+1:=by
 unfold putK
 split
 ·rw[d8];lia
 ·rw[y6,m8,X6];lia
variable {kvs:List (κ × V)}
theorem DU {k:κ} (v:V) (h:eD kvs k=none):putK kvs k v=kvs++[(k,v)]:=by
 unfold putK
 rw[om,h]
 exact if_neg (by decide)
theorem iw.isSome_eq {o:Option V}{u:Option b9} (r:iw o u):o.isSome=u.isSome:=by
 cases o with
 | none=>cases u with
  | none=>rfl
  | some _=>exact(show False from r).elim
 | some _=>cases u with
  | none=>exact(show False from r).elim
  | some _=>rfl
theorem iw.getD {o:Option V}{u:Option b9}{d:V}{d':b9} (r:iw o u) (rd:G9 d d'):G9 (o.getD d) (u.getD d'):=by
 cases o with
 | none=>cases u with
  | none=>exact rd
  | some _=>exact(show False from r).elim
 | some _=>cases u with
  | none=>exact(show False from r).elim
  | some _=>exact r
variable {vs:List (κ × b9)}
theorem KV.val (r:KV kvs vs) (k:κ):iw (eD kvs k) (rY vs k):=by
 unfold KV at r
 induction r with
 | nil=>exact V7
 | @cons p q ps qs h t ih =>
  obtain⟨h1,h2⟩:=h
  by_cases e:p.1=k
  ·have e':q.1=k:=h1.symm.trans e
   have b:rY (q::qs) k=some q.2:=by simp[rY,bO,e']
   rw[iH e,b];exact h2
  ·have e':¬ q.1=k:=fun z=>e (h1.trans z)
   have b:rY (q::qs) k=rY qs k:=by simp[rY,bO,e']
   rw[fU e,b];exact ih
theorem KV.any {kvs:List (κ × V)}{vs:List (κ × b9)} (r:KV kvs vs) (k:κ):(kvs.any fun kv=>decide (kv.1=k))=vs.any fun kv=>decide (kv.1=k):=by
 unfold KV at r
 induction r with
 | nil=>rfl
 | cons h t ih=>rw[aw,aw,ih,h.1]
theorem KV.repl (r:KV kvs vs) (k:κ) {y:V}{u:b9} (ry:G9 y u):
  KV (kvs.map fun kv=>if kv.1=k then (kv.1,y) else kv) (vs.map fun kv=>if kv.1=k then (kv.1,u) else kv):=by
 unfold KV at r ⊢
 induction r with
 | nil=>exact .nil
 | @cons p q ps qs h t ih =>
  rw[r9,r9]
  refine .cons ?_ ih
  obtain⟨h1,h2⟩:=h
  by_cases e:p.1=k
  ·rw[if_pos e,if_pos (h1.symm.trans e)];exact⟨h1,ry⟩
  ·rw[if_neg e,if_neg (fun z=>e (h1.trans z))];exact⟨h1,h2⟩
theorem KV.put (r:KV kvs vs) (k:κ) {y:V}{u:b9} (ry:G9 y u):KV (putK kvs k y) (stored vs k u):=by
 unfold putK stored
 rw[r.any k]
 by_cases e:(vs.any fun kv=>decide (kv.1=k))=true
 ·rw[if_pos e,if_pos e];exact r.repl k ry
 ·rw[if_neg e,if_neg e];exact Nq r ⟨rfl,ry⟩
theorem KV.length {kvs:List (κ × V)}{vs:List (κ × b9)} (r:KV kvs vs):kvs.length=vs.length:=dm r
end
variable {u:b9}
theorem pR {k:O4}(r:G9 (kV k) u):(O7 P w).is k u=true:=by
 cases k with
 | inl i=>obtain⟨t,e⟩:=(show ∃t,u=kz i t from r);subst e;exact vG P w i t
 | inr x=>obtain⟨t,e⟩:=(show ∃t,u=aV x t from r);subst e;exact vF P w x t
theorem rJ {P:i8}{w:t9}:∀{ks:List O4}{us:List b9},G6 (ks.map kV) us->ItemsAre (O7 P w) ks us
 | [],_,r=>by rw[yU] at r;cases r;exact .nil
 | k::ks,_,r=>by
  rw[r9] at r
  cases r with
  | cons h t=>exact .cons (pR h) (rJ t)
noncomputable abbrev KT (H:Hp):List (List O4 × V)->List (List O4 × Addr × b9)->Prop:=Ax fun p q=>p.1=q.1/\H q.2.1=some (.tup (p.1.map kV))/\G9 p.2 q.2.2
variable {kvs:List (List O4 × V)}{xs:List (List O4 × Addr × b9)}
theorem KT.val (r:KT H kvs xs) (k:List O4):iw (eD kvs k) ((Ar xs k).map (·.2)):=by
 induction r with
 | nil=>exact V7
 | @cons p q ps qs h t ih =>
  obtain⟨h1,_,h2⟩:=h
  by_cases e:p.1=k
  ·have e':q.1=k:=h1.symm.trans e
   have b:Ar (q::qs) k=some q.2:=by simp[Ar,bO,e']
   rw[iH e,b];exact h2
  ·have e':¬ q.1=k:=fun z=>e (h1.trans z)
   have b:Ar (q::qs) k=Ar qs k:=by simp[Ar,bO,e']
   rw[fU e,b];exact ih
variable {y:V}
theorem KT.repl (r:KT H kvs xs) (k:List O4) (ry:G9 y u):
  KT H (kvs.map fun kv=>if kv.1=k then (kv.1,y) else kv) (xs.map (putAt k u)):=by
 induction r with
 | nil=>exact .nil
 | @cons p q ps qs h t ih =>
  rw[r9,r9]
  refine .cons ?_ ih
  obtain⟨h1,h2,h3⟩:=h
  unfold putAt
  by_cases e:p.1=k
  ·rw[if_pos e,if_pos (h1.symm.trans e)];exact⟨h1,h2,ry⟩
  ·rw[if_neg e,if_neg (fun z=>e (h1.trans z))];exact⟨h1,h2,h3⟩
theorem KT.put (r:KT H kvs xs) (k:List O4) (hb:H b=some (.tup (k.map kV))) (ry:G9 y u):
  KT H (putK kvs k y) (storedH xs k b u):=by
 have e:(kvs.any fun kv=>decide (kv.1=k))=(Ar xs k).isSome:=by
  rw[om,(r.val k).isSome_eq,Cm]
 unfold putK storedH
 rw[e]
 by_cases q:(Ar xs k).isSome=true
 ·rw[if_pos q,if_pos q];exact r.repl k ry
 ·rw[if_neg q,if_neg q];exact Nq r ⟨rfl,hb,ry⟩
theorem KT.keeps (r:KT H kvs xs) (ht:∀b ys,H b=some (.tup ys)->H' b=some (.tup ys)):KT H' kvs xs :=
 Paired.mapP r fun _ _ z=>⟨z.1,ht _ _ z.2.1,z.2.2⟩
section
variable {P:i8}{w:t9}{H:Hp}{h:Heap}{a:Addr}
theorem Jo {u:HO} (ok:bU P w H h) (e:Rd H a u):P2 P w H h a u:=e.ok ok
theorem pZ {kvs:List (O4 × V)} (ok:bU P w H h) (e:Rd H a (.dK kvs)):kvs.length<=i7/\(a == P7)=false/\∃vs,KV kvs vs/\h.DictOf (O7 P w) a vs :=
 show P2 P w H h a (.dK kvs) from Jo ok e
theorem Jx {kvs:List (O4 × V)} (ok:bU P w H h) (e:H a=some (.dK kvs)):kvs.length<=i7/\(a == P7)=false/\∃vs,KV kvs vs/\h.DictOf (O7 P w) a vs:=pZ ok (.inl e)
theorem jZ {ks:List O4} (ok:bU P w H h) (e:H a=some (.tup (ks.map kV))):(bL (O7 P w)).is h ks a:=by
 obtain⟨_,its,r,o,h1,h2,n,h3⟩:=(show P2 P w H h a (.tup (ks.map kV)) from ok a _ e)
 exact⟨o,its.toArray,n,h1,h2,h3,by simpa using rJ r⟩
theorem pY {kvs:List (List O4 × V)} (ok:bU P w H h) (e:Rd H a (.dT kvs)):kvs.length<=i7/\(a == P7)=false /\
  ∃xs,KT H kvs xs/\h.DictOfH (bL (O7 P w)) a xs:=by
 obtain⟨z,y,xs,r,o,es,ep,h1,h2,h3,h4,h5⟩:=(show P2 P w H h a (.dT kvs) from Jo ok e)
 refine⟨z,y,xs,r,o,es,ep,h1,h2,h3,h4,fun x hx=>?_,h5⟩
 have all:∀{l:List (List O4 × V)}{m:List (List O4 × Addr × b9)},KT H l m->∀x∈m,(bL (O7 P w)).is h x.1 x.2.1:=by
  intro l m q
  induction q with
  | nil=>intro x hx;exact nomatch hx
  | @cons p q ps qs hq t ih =>
   intro x hx
   rcases List.mem_cons.mp hx with e|hx
   ·subst e
    exact jZ ok (by rw[<- hq.1];exact hq.2.1)
   ·exact ih x hx
 exact all r x hx
theorem Jw {kvs:List (List O4 × V)} (ok:bU P w H h) (e:H a=some (.dT kvs)):kvs.length<=i7/\(a == P7)=false /\
  ∃xs,KT H kvs xs/\h.DictOfH (bL (O7 P w)) a xs:=pY ok (.inl e)
end
noncomputable def cG (H:Hp) (a:Addr) (y:V) (r:Option V):Prop :=
 (∃kvs k,Rd H a (.dK kvs)/\y=kV k/\r=eD kvs k) ∨ ∃kvs k b,Rd H a (.dT kvs)/\y=.ref b/\H b=some (.tup (k.map kV))/\r=eD kvs k
noncomputable def uz (H:Hp) (a:Addr) (y v:V) (H':Hp):Prop :=
 (∃kvs k,H a=some (.dK kvs)/\y=kV k/\kvs.length<i7/\H'=A6 H a (.dK (putK kvs k v))) ∨
 ∃kvs k b,H a=some (.dT kvs)/\y=.ref b/\H b=some (.tup (k.map kV))/\kvs.length<i7/\H'=A6 H a (.dT (putK kvs k v))
theorem cG.k {H:Hp}{a:Addr}{kvs:List (O4 × V)}{k:O4} (e:H a=some (.dK kvs)):cG H a (kV k) (eD kvs k):=.inl ⟨kvs,k,.inl e,rfl,rfl⟩
theorem cG.t {k:List O4} (e:H a=some (.dT kvs)) (eb:H b=some (.tup (k.map kV))):cG H a (.ref b) (eD kvs k):=.inr ⟨kvs,k,b,.inl e,rfl,eb,rfl⟩
theorem uz.k {H:Hp}{a:Addr}{kvs:List (O4 × V)}{k:O4}{v:V} (e:H a=some (.dK kvs)) (hl:kvs.length<i7):uz H a (kV k) v (A6 H a (.dK (putK kvs k v))):=.inl ⟨kvs,k,e,rfl,hl,rfl⟩
theorem uz.t {k:List O4}{v:V} (e:H a=some (.dT kvs)) (eb:H b=some (.tup (k.map kV))) (hl:kvs.length<i7):
  uz H a (.ref b) v (A6 H a (.dT (putK kvs k v))):=.inr ⟨kvs,k,b,e,rfl,eb,hl,rfl⟩
section
variable {X:Cx}{pins:List (Addr × Obj)}{σ:St}{H:Hp}{s:f6}{a:Addr}{y v:V}{u r:b9}{o:Option V}{A:y7}{E:b9->f6->Prop}
theorem C0.big (I:C0 X pins σ H s):P7<s.heap.objs.size:=by
 have h:u6<s.heap.objs.size:=(I.mod.glob.keeps I.bk).lt
 exact PP (by decide) h
theorem Bx {Q:b9->f6->Prop} (hu:A.units+1<dj) (I:C0 X pins σ H s) (g:cG H a y (some v)) (ry:G9 y u) (h:∀w' s',C0 X pins σ H s'->G9 v w'->Q w' s'):
  j6 (r0 X.prog X.w) A (yS (.ref a) u) Q E s:=by
 rcases g with ⟨kvs,k,e,ey,l⟩|⟨kvs,k,b,e,ey,eb,l⟩
 ·subst ey
  obtain⟨z,hd,vs,rel,dd⟩:=pZ I.hok e
  obtain⟨w',hw,rw'⟩:=iw.some_of (v:=v) (o:=rY vs k) (by rw[l];exact rel.val k)
  exact Pz (pR ry) dd.mapOf hw (h w' _ (I.tok _) rw')
 ·subst ey
  cases (show u=n9 b from ry)
  obtain⟨z,hd,xs,rel,dd⟩:=pY I.hok e
  obtain⟨w',hw,rw'⟩:=iw.some_of (v:=v) (o:=(Ar xs k).map (·.2)) (by rw[l];exact rel.val k)
  obtain⟨p,hp,hp2⟩:=Option.map_eq_some_iff.mp hw
  refine wpAny_getItem_heap (cR hu) (jZ I.hok eb) dd hp ?_
  rw[hp2]
  exact h w' _ (I.tok _) rw'
theorem IC {Q:b9->f6->Prop} (hu:A.units+1<dj) (I:C0 X pins σ H s) (g:cG H a y o) (ry:G9 y u) (h:∀s',C0 X pins σ H s'->Q (.bool (!o.isSome)) s'):
  j6 (r0 X.prog X.w) A (M4 .NotIn u (.ref a)) Q E s:=by
 rcases g with ⟨kvs,k,e,ey,l⟩|⟨kvs,k,b,e,ey,eb,l⟩
 ·subst ey
  obtain⟨z,hd,vs,rel,dd⟩:=pZ I.hok e
  refine wpAny_notIn_of (pR ry) hd dd.mapOf ?_
  rw[<- (rel.val k).isSome_eq,<- l]
  exact h _ (I.tok _)
 ·subst ey
  cases (show u=n9 b from ry)
  obtain⟨z,hd,xs,rel,dd⟩:=pY I.hok e
  refine wpAny_notIn_heap (cR hu) (jZ I.hok eb) hd dd ?_
  have q:=(rel.val k).isSome_eq
  rw[Cm] at q
  rw[<- q,<- l]
  exact h _ (I.tok _)
theorem nX {h':Heap}{t':Nat}{ob:HO} (I:C0 X pins σ H s) (mu:OS (H a)) (hs:E7 a s.heap h') (he:∃q,h'.get? a=some q) (new:P2 X.prog X.w (A6 H a ob) h' a ob):
  C0 X pins σ (A6 H a ob) { s with heap:=h',toks:=t' } :=
 I.write (x:=a) (e:=a) mu (.inl rfl) (fun b q hb z=>(hs.2 b hb).trans z) he new
theorem FC {P:i8}{w:t9}{H':Hp}{h':Heap}{kvs:List (O4 × V)}{vs:List (O4 × b9)} (z:kvs.length<=i7) (hd:(a == P7)=false) (rel:KV kvs vs) (dd:h'.DictOf (O7 P w) a vs):
  P2 P w H' h' a (.dK kvs):=⟨z,hd,vs,rel,dd⟩
theorem Bw {H':Hp}{Q:Unit->f6->Prop} (hu:A.units+1<dj) (I:C0 X pins σ H s) (g:uz H a y v H') (ry:G9 y u) (rv:G9 v r) (h:∀s',C0 X pins σ H' s'->Q () s'):
  j6 (r0 X.prog X.w) A (setItem (.ref a) u r) Q E s:=by
 rcases g with ⟨kvs,k,e,ey,l,eH⟩|⟨kvs,k,b,e,ey,eb,l,eH⟩
 ·subst ey eH
  obtain⟨z,hd,vs,rel,dd⟩:=Jx I.hok e
  have hz:vs.length<=i7:=by rw[<- rel.length];exact z
  have hl:(putK kvs k v).length<=i7:=by have:=ja kvs k v;lia
  refine wpAny_setItem_pairs (hsz:=hz) (pR ry) dd fun h' dd' hs=>h _ ?_
  have he:∃q,h'.get? a=some q:=let ⟨q,_,_,hq,_⟩:=dd';⟨q,hq⟩
  exact nX I (by rw[e];exact V7) hs he (FC hl hd (rel.put k rv) dd')
 ·subst ey eH
  cases (show u=n9 b from ry)
  obtain⟨z,hd,xs,rel,dd⟩:=Jw I.hok e
  have hz:xs.length<=i7:=by rw[<- dm rel];exact z
  have hl:(putK kvs k v).length<=i7:=by have:=ja kvs k v;lia
  refine wpAny_setItem_heap (hsz:=hz) (cR hu) (jZ I.hok eb) dd fun h' dd' hs=>h _ ?_
  obtain⟨q,es,ep,hq,h2,h3,h4,_,h5⟩:=dd'
  refine nX I (by rw[e];exact V7) hs ⟨q,hq⟩ ⟨hl,hd,_,(rel.put k eb rv).keeps fun c ys ec=>?_,q,es,ep,hq,h2,h3,h4,h5⟩
  rw[v9 (gn ec e (fun z=>nomatch z))]
  exact ec
end
section
variable {X:Cx}{pins:List (Addr × Obj)}{σ:St}{H:Hp}{s:f6}{a:Addr}{kvs:List (O4 × V)}{k:O4}{u:b9}{A:y7}{E:b9->f6->Prop}
end
def Mx (i:Expr):Prop:=∀ov iv,wD i false ov iv=operate [ov,iv] (yS ov iv)
theorem za {prog:i8}{value slice:Expr}{T id:String}{Q:b9->f6->Prop}
  (hl:typeLookup (.type T) "__getitem__"=pure (some (.builtin id))) (hs:Mx slice)
  (h:j6 (r0 prog w) A (eval value env) (fun o s₁=>j6 (r0 prog w) A (eval slice env) (fun i s₂=>s₂.TypeIs o T/\j6 (r0 prog w) A (yS o i) Q E s₂) E s₁) E s):
  j6 (r0 prog w) A (eval (.Subscript value slice pos) env) Q E s:=by
 refine Nl (B5 h (fun o s₁ h₁=>B5 h₁ (fun i s₂ h₂=>?_) fun _ _ x=>x) fun _ _ x=>x)
 obtain⟨hT,h₂⟩:=h₂
 unfold Cg
 refine b7 ?_
 rw[getitemInPython_of_ne hT.not_modules]
 refine b7 (wpAny_specialOf hT hl ?_)
 have fin:j6 (r0 prog w) A (wD slice false o i) (fun r s₃=>j6 (r0 prog w) A (letTemporaryGo value o r >>= fun _=>pure r) Q E s₃) E s₂:=by
  rw[hs o i]
  exact wpAny_operating (B5 h₂ (fun r s₃ h₃=>b7 (wpAny_letTemporaryGo (g0 h₃))) fun _ _ x=>x)
 first
  | exact g0 (b7 fin)
  | exact b7 (g0 (b7 fin))
  | exact b7 fin
theorem vR {o:Option V} (I:C0 X pins σ H s) (g:cG H a y o):s.TypeIs (.ref a) "dict":=by
 rcases g with ⟨kvs,k,e,_,_⟩|⟨kvs,k,b,e,_,_,_⟩
 ·obtain⟨_,_,vs,_,dd⟩:=pZ I.hok e
  exact dd.typeIs
 ·obtain⟨_,_,xs,_,dd⟩:=pY I.hok e
  exact dd.typeIs
def NI (td ty:TE):TE:=fun σ H Q=>td σ H fun x H1=>ty σ H1 fun y H2=>∃a v,x=.ref a/\cG H2 a y (some v)/\Q v H2
def GP (ty td:TE):TE:=fun σ H Q=>ty σ H fun y H1=>td σ H1 fun x H2=>∃a o,x=.ref a/\cG H2 a y o/\Q (.bl (!o.isSome)) H2
def NY (td ty tv:TE):TS:=fun D σ H=>tv σ H fun v H1=>td σ H1 fun x H2=>ty σ H2 fun y H3=>∃a H4,x=.ref a/\uz H3 a y v H4/\D.nx σ H4
section
variable {X:Cx}{o i e value:Expr}{pos pos' tpos:Pos}{td ty tv:TE}
theorem gS (hu:X.A.units+1<dj) (ho:PE X o td) (hi:PE X i ty) (hs:Mx i):PE X (.Subscript o i pos) (NI td ty):=by
 intro pins s σ H Q I h
 refine za PySem.F.slot_dict_getitem.lookup hs (P1 (ho pins s σ H _ I h) fun u s1 ⟨x,H1,I1,rx,q1⟩=>P1 (hi pins s1 σ H1 _ I1 q1) fun iv s2 ⟨y,H2,I2,ry,a,v,ex,g,q2⟩=>?_)
 subst ex
 obtain rfl:u=n9 a:=rx
 exact⟨vR I2 g,Bx hu I2 g ry fun w' s3 I3 rw'=>⟨v,H2,I3,rw',q2⟩⟩
theorem AU (hu:X.A.units+1<dj) (hi:PE X i ty) (ho:PE X o td):PC X .NotIn i o (GP ty td):=by
 intro pins s σ H Q I h
 refine P1 (hi pins s σ H _ I h) fun iv s1 ⟨y,H1,I1,ry,q1⟩=>P1 (ho pins s1 σ H1 _ I1 q1) fun u s2 ⟨x,H2,I2,rx,a,ov,ex,g,q2⟩=>?_
 subst ex
 obtain rfl:u=n9 a:=rx
 exact IC hu I2 g ry fun s3 I3=>⟨.bl (!ov.isSome),H2,I3,rfl,q2⟩
theorem tF (hu:X.A.units+1<dj) (ho:PE X o td) (hi:PE X i ty) (hv:PE X value tv) (hs:jH value (some (.Subscript o i pos')) pos.line X.env=pure false):
  PS X (.Assign [.Subscript o i pos'] value pos) (NY td ty tv):=by
 intro pins s σ H D I h
 refine wpAny_Assign_Subscript (P1 (hv pins s σ H _ I h) fun r s1 ⟨v,H1,I1,rv,q1⟩=>P1 (ho pins s1 σ H1 _ I1 q1) fun u s2 ⟨x,H2,I2,rx,q2⟩=>P1 (hi pins s2 σ H2 _ I2 q2) fun iv s3 ⟨y,H3,I3,ry,a,H4,ex,g,q3⟩=>?_) hs
 subst ex
 obtain rfl:u=n9 a:=rx
 exact Bw hu I3 g ry rv fun s4 I4=>⟨σ,H4,I4,q3⟩
end
theorem FD (h:Heap) (hb:P7<h.objs.size):P2 P w H (h.push { cls:=.type "dict",data:=.dict #[] }) h.objs.size (.dK []):=
 ⟨A7 _,beq_eq_false_iff_ne.mpr (E8 (m9 hb)),[],.nil,yV h⟩
theorem vQ (h:Heap) (hb:P7<h.objs.size):P2 P w H (h.push { cls:=.type "dict",data:=.dict #[] }) h.objs.size (.dT []):=
 ⟨A7 _,beq_eq_false_iff_ne.mpr (E8 (m9 hb)),[],.nil,_,#[],0,j8 _ rfl,⟨rfl,rfl,rfl⟩,rfl,rfl,MJ⟩
def Kh:TE:=fun _ H Q=>∀p,H p=none->Q (.ref p) (A6 H p (.dT []))
section
variable {X:Cx}{pos:Pos}
theorem Eh:PE X (.Dict [] [] pos) Kh:=fun pins s σ H Q I h =>
 PB ⟨.ref s.heap.objs.size,_,I.laid (a:=s.heap.objs.size) (o:=.dT []) (t':=s.toks) (fun _ _ q=>d9 _ q) (i9 _) (vQ s.heap I.big),rfl,h _ (I.hok.fresh (i9 _))⟩
end
structure M1 (X:Cx) (o:Expr) (m:Str) (apos:Pos) (e:Expr) (cpos:Pos):Prop where
 base:cz o m X.env (eval o X.env)=eval o X.env
 few:((V2 cpos (A2 [e] X.env)).all (fun x=>!x.1)&&(sj cpos (jg [] X.env)).all (fun x=>x.1.isSome)
  && decide (([e]:List Expr).length+([]:List nM).length+(if ([]:List nM).isEmpty then 0 else 1)<30))=true
 line:(apos.endLine == cpos.line)=true
 trees:V2 cpos (A2 [e] X.env)=[(false,eval e X.env)]
structure M2 (X:Cx) (o:Expr) (m:Str) (apos:Pos) (e f:Expr) (cpos:Pos):Prop where
 base:cz o m X.env (eval o X.env)=eval o X.env
 few:((V2 cpos (A2 [e,f] X.env)).all (fun x=>!x.1)&&(sj cpos (jg [] X.env)).all (fun x=>x.1.isSome)
  && decide (([e,f]:List Expr).length+([]:List nM).length+(if ([]:List nM).isEmpty then 0 else 1)<30))=true
 line:(apos.endLine == cpos.line)=true
 trees:V2 cpos (A2 [e,f] X.env)=[(false,eval e X.env),(false,eval f X.env)]
def IsD (H:Hp) (a:Addr):Prop:=(∃kvs,Rd H a (.dK kvs)) ∨ ∃kvs,Rd H a (.dT kvs)
theorem Fl (I:C0 X pins σ H s) (d:IsD H a):
  s.TypeIs (.ref a) "dict"/\(∀b,n9 a=.ref b->∃ob,s.heap.get? b=some ob/\ob.dict=none)/\(a == P7)=false:=by
 rcases d with ⟨kvs,e⟩|⟨kvs,e⟩
 ·obtain⟨_,hd,vs,_,dd⟩:=pZ I.hok e
  refine⟨dd.typeIs,fun b q=>?_,hd⟩
  cases q
  obtain⟨ob,_,_,h1,h2,_⟩:=dd
  exact⟨ob,h1,h2.2.1⟩
 ·obtain⟨_,hd,xs,_,dd⟩:=pY I.hok e
  refine⟨dd.typeIs,fun b q=>?_,hd⟩
  cases q
  obtain⟨ob,_,_,h1,h2,_⟩:=dd
  exact⟨ob,h1,h2.2.1⟩
section
variable {X:Cx}{pins:List (Addr × Obj)}{σ:St}{H:Hp}{s:f6}{a:Addr}{y d:V}{u r:b9}{o:Option V}{A:y7}{E:b9->f6->Prop}
theorem Ml {Q:b9->f6->Prop} (hu:A.units+1<dj) (I:C0 X pins σ H s) (g:cG H a y o) (ry:G9 y u) (h:∀w' s',C0 X pins σ H s'->G9 (o.getD .non) w'->Q w' s'):
  j6 (r0 X.prog X.w) A (call (.builtin "dict.get") [.ref a,u]) Q E s:=by
 rcases g with ⟨kvs,k,e,ey,l⟩|⟨kvs,k,b,e,ey,eb,l⟩
 ·subst ey
  obtain⟨z,hd,vs,rel,dd⟩:=pZ I.hok e
  refine kG V4 dd.typeIs bW (uE _ _) (meets_dict_get (O7 X.prog X.w) a (pR ry) hd) ⟨_,dd.mapOf,h _ _ (I.tok _) ?_⟩
  rw[l]
  exact(rel.val k).getD rfl
 ·subst ey
  cases (show u=n9 b from ry)
  obtain⟨z,hd,xs,rel,dd⟩:=pY I.hok e
  refine kG V4 dd.typeIs bW (uE _ _) (meetsH_dict_get (bL (O7 X.prog X.w)) a b hd) ⟨cR hu,k,xs,jZ I.hok eb,dd,h _ _ (I.tok _) ?_⟩
  rw[l]
  exact(rel.val k).getD rfl
theorem Mj {Q:b9->f6->Prop} (hu:A.units+1<dj) (I:C0 X pins σ H s) (g:cG H a y o) (ry:G9 y u) (rd:G9 d r) (h:∀w' s',C0 X pins σ H s'->G9 (o.getD d) w'->Q w' s'):
  j6 (r0 X.prog X.w) A (call (.builtin "dict.get") [.ref a,u,r]) Q E s:=by
 rcases g with ⟨kvs,k,e,ey,l⟩|⟨kvs,k,b,e,ey,eb,l⟩
 ·subst ey
  obtain⟨z,hd,vs,rel,dd⟩:=pZ I.hok e
  refine kG V4 dd.typeIs bW (uD _ _ _) (meets_dict_get_default (O7 X.prog X.w) a (pR ry) hd r) ⟨_,dd.mapOf,h _ _ (I.tok _) ?_⟩
  rw[l]
  exact(rel.val k).getD rd
 ·subst ey
  cases (show u=n9 b from ry)
  obtain⟨z,hd,xs,rel,dd⟩:=pY I.hok e
  refine kG V4 dd.typeIs bW (uD _ _ _) (meetsH_dict_get_default (bL (O7 X.prog X.w)) a b hd r) ⟨cR hu,k,xs,jZ I.hok eb,dd,h _ _ (I.tok _) ?_⟩
  rw[l]
  exact(rel.val k).getD rd
end
def Kj (td ty:TE):TE:=fun σ H Q=>td σ H fun x H1=>∃a,x=.ref a/\IsD H1 a/\ty σ H1 fun y H2=>∃o,cG H2 a y o/\Q (o.getD .non) H2
def Ki (td ty tx:TE):TE:=fun σ H Q=>td σ H fun x H1=>∃a,x=.ref a/\IsD H1 a/\ty σ H1 fun y H2=>tx σ H2 fun z H3=>∃o,cG H3 a y o/\Q (o.getD z) H3
section
variable {X:Cx}{o e f:Expr}{apos cpos:Pos}{td ty tx:TE}
theorem Ej (hu:X.A.units+1<dj) (ho:PE X o td) (he:PE X e ty) (m:M1 X o "get" apos e cpos):PE X (.Call (.Attribute o "get" apos) [e] [] cpos) (Kj td ty):=by
 intro pins s σ H Q I h
 refine Pd m.base m.few m.line bK V4 wI (P1 (ho pins s σ H _ I h) fun u s1 ⟨x,H1,I1,rx,a,ex,d,q1⟩=>?_)
 subst ex
 obtain rfl:u=n9 a:=rx
 obtain⟨t1,t2,_⟩:=Fl I1 d
 refine⟨t1,t2,?_⟩
 rw[m.trees]
 refine ae rfl (dM (fI (P1 (he pins s1 σ H1 _ I1 q1) fun iv s2 ⟨y,H2,I2,ry,ov,g,q2⟩=>nq ?_)))
 exact Ml hu I2 g ry fun w' s3 I3 rw'=>⟨_,H2,I3,rw',q2⟩
theorem Ei (hu:X.A.units+1<dj) (ho:PE X o td) (he:PE X e ty) (hf:PE X f tx) (m:M2 X o "get" apos e f cpos):PE X (.Call (.Attribute o "get" apos) [e,f] [] cpos) (Ki td ty tx):=by
 intro pins s σ H Q I h
 refine Pd m.base m.few m.line bK V4 wI (P1 (ho pins s σ H _ I h) fun u s1 ⟨x,H1,I1,rx,a,ex,d,q1⟩=>?_)
 subst ex
 obtain rfl:u=n9 a:=rx
 obtain⟨t1,t2,_⟩:=Fl I1 d
 refine⟨t1,t2,?_⟩
 rw[m.trees]
 refine ae rfl (dM (fI (P1 (he pins s1 σ H1 _ I1 q1) fun iv s2 ⟨y,H2,I2,ry,q2⟩ =>
  fI (P1 (hf pins s2 σ H2 _ I2 q2) fun fv s3 ⟨z,H3,I3,rz,ov,g,q3⟩=>nq ?_))))
 exact Mj hu I3 g ry rz fun w' s4 I4 rw'=>⟨_,H3,I4,rw',q3⟩
end
section
variable {X:Cx}{pins:List (Addr × Obj)}{σ:St}{H:Hp}{s:f6}{a:Addr}{kvs:List (O4 × V)}{A:y7}{E:b9->f6->Prop}
end
section
variable {X:Cx}{pins:List (Addr × Obj)}{σ:St}{H:Hp}{s:f6}{a:Addr}{y:V}{u:b9}{A:y7}{E:b9->f6->Prop}
end
end L2
namespace Att
open PySem PySem.W PySem.Calls PyProof.Rows
section
variable {prog:i8}{w:t9}{A:y7}{E:b9->f6->Prop}{s:f6}{K:Frag}
end
end Att
namespace L2
open PySem PySem.Spec PyProof.Rows
section
variable {P:i8}{w:t9}{K:j7}{mg:Str->Option b9}{base:Heap}
end
section
variable {X:Cx}
end
section
variable {κ:Type} [DecidableEq κ]
end
section
variable {prog:i8}{w:t9}{A:y7}{E:b9->f6->Prop}{s:f6}
noncomputable abbrev Fy (it:Addr):Obj:={ cls:=.type "enumerate",data:=.fields #[.none,.bool false,.ref it,P0 0,.none,.none] }
theorem Bv (t:Addr) (xs:Array b9):
  Meets (gF.«enumerate.__new__» ⟨[.type "enumerate",.ref t],[]⟩) (fun _ R s=>s.heap.IsTuple t xs/\R (.ok (.ret (.ref (s.heap.push (NA t)).objs.size))) { s with heap:=(s.heap.push (NA t)).push (Fy s.heap.objs.size) }):=
 .of_wp fun prog w A R s h=>by
  obtain⟨hp,g,d,tk,os⟩:=s;obtain⟨hl,h⟩:=h
  have hsub:=sub_enumerate
  have hL:Pm (yT ⟨hp,g,d,tk,os⟩) t xs:=hl
  obtain⟨ol,hol,_⟩:=id hl
  wp_walk using bj hol
  refine wpAny_stack_any fun st=>g0 ?_
  split
  ·rename_i c _ _ _ _ _
   cases (c == fH "enumerate")
   ·wp_walk using bj hol,aC hL
    exact⟨_,rfl,h⟩
   ·wp_walk using bj hol,aC hL
    exact⟨_,rfl,h⟩
  ·wp_walk using bj hol,aC hL
   exact⟨_,rfl,h⟩
structure Px (h:Heap) (e it t:Addr) (k:Nat):Prop where
 en:∃old,GK h e it k old
 it:h.IsTupleIter it t k
variable {xs:Array b9}
theorem Fz {e it t:Addr}{i:Nat}{x:b9}{Q:Option b9->f6->Prop} (Z:Px s.heap e it t i) (hl:s.heap.IsTuple t xs) (hx:xs[i]?=some x) (hne:e≠it)
  (hQ:∀h',PU h' e it ((i:Int)+1) x s.heap.objs.size->h'.IsTupleIter it t (i+1)->h'.get? s.heap.objs.size=some { cls:=.type "tuple",data:=.seq #[.int i s.toks,x] }->h'.objs.size=s.heap.objs.size+1 ->
   (∀b o,b ∉ [e,it]->s.heap.get? b=some o->h'.get? b=some o)->Q (some (.ref s.heap.objs.size)) { s with heap:=h',toks:=s.toks+1 }):j6 (r0 prog w) A (Y4 (.ref e)) Q E s:=by
 obtain⟨⟨old,he⟩,hit⟩:=Z
 obtain⟨hp,g,d,tk,os⟩:=s
 have hT:gv ⟨hp,g,d,tk,os⟩ (.ref e) "enumerate":=⟨_,he,rfl⟩
 unfold Y4
 refine b7 (W2 (J1 (name:=M5 "__next__") hT dX (J7 dX hT Cy ?_ (Cb _))))
 show j6 _ _ (qk (.ref e) 2 >>= _) _ _ _
 refine b7 (C4 he rfl (x:=.ref it) rfl ?_)
 refine b7 (pA hit hl hx fun h1 hit1 s1=>?_)
 replace s1:E7 it hp h1:=s1
 have he1:GK h1 e it i old:=(s1.2 e hne).trans he
 show j6 _ _ (qk (.ref e) 3 >>= _) _ _ ⟨h1,g,d,tk,os⟩
 refine b7 (C4 he1 rfl (x:=P0 i) rfl ?_)
 show j6 _ _ (qk (.ref e) 4 >>= _) _ _ ⟨h1,g,d,tk,os⟩
 refine b7 (C4 he1 rfl (x:=.none) rfl ?_)
 show j6 _ _ (mkInt i >>= _) _ _ ⟨h1,g,d,tk,os⟩
 refine b7 (wpAny_mkInt ?_)
 show j6 _ _ (jJ (.ref e) 3 (P0 ((i:Int)+1)) >>= _) _ _ ⟨h1,g,d,tk+1,os⟩
 refine b7 (D5 he1 (by simp) fun h2 he2 s2=>?_)
 replace s2:E7 e h1 h2:=s2
 replace he2:GK h2 e it ((i:Int)+1) old:=he2
 show j6 _ _ (jJ (.ref e) 4 .none >>= _) _ _ ⟨h2,g,d,tk+1,os⟩
 refine b7 (D5 he2 (by simp) fun h3 he3 s3=>?_)
 replace s3:E7 e h2 h3:=s3
 replace he3:GK h3 e it ((i:Int)+1) old:=he3
 show j6 _ _ (JM [.int i tk,x] >>= _) _ _ ⟨h3,g,d,tk+1,os⟩
 refine b7 (il ?_)
 have he4:GK (h3.push { cls:=.type "tuple",data:=.seq #[.int i tk,x] }) e it ((i:Int)+1) old:=d9 _ he3
 generalize hh4:h3.push { cls:=.type "tuple",data:=.seq #[.int i tk,x] }=h4 at he4
 have hsz:h3.objs.size=hp.objs.size:=by rw[s3.1,s2.1,s1.1]
 have hel:e<hp.objs.size:=i5 he
 have ht4:h4.get? hp.objs.size=some { cls:=.type "tuple",data:=.seq #[.int i tk,x] }:=by rw[<- hh4,<- hsz];exact j8 _ rfl
 have hz4:h4.objs.size=hp.objs.size+1:=by rw[<- hh4,C5,hsz]
 have hk4:∀b o,b≠e->b≠it->hp.get? b=some o->h4.get? b=some o:=fun b o hbe hbi hb=>by
  rw[<- hh4];exact d9 _ (s3.extBut b o hbe (s2.extBut b o hbe (s1.extBut b o hbi hb)))
 have hit4:h4.IsTupleIter it t (i+1):=by
  rw[<- hh4]
  exact hit1.at fun o e'=>d9 _ (s3.extBut _ o (E8 hne) (s2.extBut _ o (E8 hne) e'))
 show j6 _ _ (J5 (.ref e) >>= _) _ _ ⟨h4,g,d,tk+1,os⟩
 rw[hsz]
 clear hh4 he3 s3 he2 s2 he1 s1 hit1 hsz h3 h2 h1
 refine b7 ?_
 unfold J5
 refine b7 (C4 he4 rfl (x:=.none) rfl (g0 ?_))
 simp only[if_true]
 refine b7 (kC ?_)
 refine b7 (C4 he4 rfl (x:=old) rfl ?_)
 refine b7 (D5 he4 (by simp) fun h5 he5 s5=>?_)
 replace s5:E7 e h4 h5:=s5
 replace he5:GK h5 e it ((i:Int)+1) x:=he5
 show j6 _ _ (Q9 (.ref e) (.ref hp.objs.size) >>= _) _ _ ⟨h5,g,d,tk+1,os⟩
 refine b7 ?_
 unfold Q9
 refine b7 (D5 he5 (by simp) fun h6 he6 s6=>?_)
 replace s6:E7 e h5 h6:=s6
 replace he6:PU h6 e it ((i:Int)+1) x hp.objs.size:=he6
 refine D5 he6 (by simp) fun h7 he7 s7=>?_
 replace s7:E7 e h6 h7:=s7
 replace he7:PU h7 e it ((i:Int)+1) x hp.objs.size:=he7
 refine b7 (wC (g0 ⟨_,rfl,g0 (hQ h7 he7 ?_ ?_ ?_ ?_)⟩))
 ·exact hit4.at fun o e'=>s7.extBut _ o (E8 hne) (s6.extBut _ o (E8 hne) (s5.extBut _ o (E8 hne) e'))
 ·exact s7.extBut _ _ (B7 hel) (s6.extBut _ _ (B7 hel) (s5.extBut _ _ (B7 hel) ht4))
 ·show h7.objs.size=hp.objs.size+1
  rw[s7.1,s6.1,s5.1,hz4]
 ·intro b o hb e'
  simp only[C3,B6,or_false,not_or] at hb
  exact s7.extBut b o hb.1 (s6.extBut b o hb.1 (s5.extBut b o hb.1 (hk4 b o hb.1 hb.2 e')))
theorem Iz {e it t:Addr}{i:Nat}{Q:Option b9->f6->Prop} (hh:A.handled=none) (Z:Px s.heap e it t i) (hl:s.heap.IsTuple t xs) (hx:xs[i]?=none)
  (hQ:∀h',gE it s.heap h'->Q none { s with heap:=h' }):j6 (r0 prog w) A (Y4 (.ref e)) Q E s:=by
 obtain⟨⟨old,he⟩,hit⟩:=Z
 have hT:s.TypeIs (.ref e) "enumerate":=⟨_,he,rfl⟩
 unfold Y4
 refine b7 (W2 (J1 (name:=M5 "__next__") hT dX (J7 dX hT Cy ?_ (Cb _))))
 show j6 _ _ (qk (.ref e) 2 >>= _) _ _ _
 refine b7 (C4 he rfl (x:=.ref it) rfl ?_)
 refine b7 (rB hh hit hl hx fun h' x he' hx'=>?_)
 obtain⟨o,ho,hc⟩:=hx'
 exact b7 (jG (T:="StopIteration") (b:=true) ⟨o,ho,hc⟩ ni (g0 (hQ _ he')))
theorem yF {t:Addr}{Q:b9->f6->Prop} (hl:s.heap.IsTuple t xs)
  (h:∀h',Px h' (s.heap.objs.size+1) s.heap.objs.size t 0->(∀c o,s.heap.get? c=some o->h'.get? c=some o)->h'.objs.size=s.heap.objs.size+2->Q (.ref (s.heap.objs.size+1)) { s with heap:=h' }):
  j6 (r0 prog w) A (call (.type "enumerate") [.ref t]) Q E s:=by
 refine callType_new F.called_enumerate (by decide) (F.typeCall_enumerate_1 _) (F.newCall_enumerate_1 _) (fun obj=>F.args_object_init_2 obj _) F.entry_enumerate_new (Bv t xs) ⟨hl,?_⟩
 simp only[C5]
 have e1:((s.heap.push (NA t)).push (Fy s.heap.objs.size)).get? (s.heap.objs.size+1)=some (Fy s.heap.objs.size):=by
  have:((s.heap.push (NA t)).push (Fy s.heap.objs.size)).get? (s.heap.push (NA t)).objs.size=some (Fy s.heap.objs.size):=j8 _ rfl
  rwa [C5] at this
 refine⟨⟨_,e1,rfl⟩,h _ ⟨⟨_,e1⟩,⟨_,d9 _ (j8 _ rfl),rfl,rfl⟩⟩ (fun c o e=>d9 _ (d9 _ e)) (by simp only[C5])⟩
end
section
variable {X:Cx}{pins:List (Addr × Obj)}{σ:St}{H:Hp}{s:f6}
noncomputable def Ite (K:j7) (a:Addr):It :=
 ⟨fun i H=>∃xs x,fC K H a xs/\xs[i]?=some x,fun i H v H'=>∃p x,H p=none/\v=.ref p/\H'=A6 H p (.tup [.int i,x])/\∀xs,fC K H a xs->xs[i]?=some x,fun i H=>∃xs,fC K H a xs/\xs.length<=i⟩
theorem C0.yieldPair {h2:Heap}{t':Nat}{fp:List Addr}{x y:V}{u v:b9} (I:C0 X pins σ H s) (hf:∀b∈fp,eR X pins H b) (k2:∀c o,c ∉ fp->s.heap.get? c=some o->h2.get? c=some o)
  (e0:h2.get? s.heap.objs.size=some { cls:=.type "tuple",data:=.seq #[u,v] }) (ru:G9 x u) (rv:G9 y v):C0 X pins σ (A6 H s.heap.objs.size (.tup [x,y])) { s with heap:=h2,toks:=t' }:=by
 have hn:H s.heap.objs.size=none:=I.hok.fresh (i9 _)
 have pne:∀c o,s.heap.get? c=some o->c≠s.heap.objs.size:=fun c o e=>m9 (i5 e)
 have nit:∀c u,H c=some u->c ∉ fp:=fun c u e q=>by rw[(hf c q).1] at e;cases e
 have hok:bU X.prog X.w (A6 H s.heap.objs.size (.tup [x,y])) h2:=fun c ob e=>by
  by_cases hq:c=s.heap.objs.size
  ·subst hq
   rw[j0] at e;cases e
   exact⟨by show 2<=i7;decide,[u,v],.cons ru (.cons rv .nil),⟨_,e0,rfl,_,rfl⟩⟩
  ·rw[v9 hq] at e
   refine (I.hok c ob e).stay (fun d w' hd q=>k2 d w' ?_ q) (fun d q=>by rw[v9 (u9 q hn)];exact q) fun d xs q=>by rw[v9 (u9 q hn)];exact q
   rcases hd with rfl|hd
   ·exact nit d ob e
   ·exact nit d _ hd
 refine I.step (g':=s.gens) (d':=s.drawn) (t':=t') (ch:=fp) (fun c hc=>⟨(hf c hc).2.2.2.1,(hf c hc).2.1,(hf c hc).2.2.2.2.1,(hf c hc).2.2.2.2.2⟩) (fun c o _ _ hc e _=>k2 c o hc e) (fun c o _ _ hc e _=>⟨o.slots,k2 c o hc e⟩)
  (fun c o _ e n=>by rw[v9 (pne c o e)];exact n) (fun c o hc e=>⟨o,k2 c o hc e⟩) (fun c xs e=>by rw[v9 (u9 e hn)];exact e) (fun c o u e=>by rw[v9 (u9 e hn)];exact e) (fun c ps e=>⟨#[],by rw[v9 (u9 e hn),e];simp⟩) (fun m hm=>?_) hok I.bare
 obtain⟨o,es,ep,ho,r⟩:=hm
 exact⟨o,es,ep,k2 _ o (fun q=>(hf _ q).2.1 rfl) ho,r⟩
theorem xk {P:i8}{w:t9}{K:j7}{es:List Expr}{kk:Nat}{pos:Pos}{a e it:Addr} (hne:e≠it):
  nE P w K (.Tuple es kk pos) (Ite K a) [e,it] e (fun i h=>Px h e it a i) where
 mem:=by simp
 obj:=fun i h st c hc=>by
  obtain⟨⟨_,he⟩,⟨_,h1,_,d1⟩⟩:=st
  simp only[C3,B6,or_false] at hc
  rcases hc with rfl|rfl
  ·exact⟨_,he,fun v q=>by cases q⟩
  ·exact⟨_,h1,fun v q=>by rw[d1] at q;cases q⟩
 keep:=fun i h h' st k=>⟨let ⟨old,he⟩:=st.en;⟨old,k _ (by simp) _ he⟩,st.it.at fun o e=>k _ (by simp) o e⟩
 item:=by
  intro X hP hw hK hc i pins s σ H E I hf st hg
  subst hP hw hK
  obtain⟨xs,x,ha,hx⟩:=hg
  obtain⟨its,r1,p1,_⟩:=I.tuple ha
  obtain⟨u,hu,ru⟩:=r1.get hx
  refine Fz st (show s.heap.IsTuple a its.toArray from p1) (x:=u) (by simpa using hu) hne fun h' z1 j1 new sz keep=>?_
  refine⟨_,rfl,wpAny_letOwnedTupleGo_enum (s:={ s with heap:=h',toks:=s.toks+1 }) z1 fun h2 z2 sb=>?_⟩
  have elt:e<s.heap.objs.size:=let ⟨_,he⟩:=st.en;i5 he
  have ilt:it<s.heap.objs.size:=let ⟨_,h1,_⟩:=st.it;i5 h1
  have k2:∀c o,c ∉ [e,it]->s.heap.get? c=some o->h2.get? c=some o:=fun c o hc q=>sb.extBut _ _ (fun z=>hc (by simp[z])) (keep c o hc q)
  have e0:h2.get? s.heap.objs.size=some { cls:=.type "tuple",data:=.seq #[.int i s.toks,u] }:=sb.extBut _ _ (B7 elt) new
  have hn:H s.heap.objs.size=none:=I.hok.fresh (i9 _)
  refine⟨.ref s.heap.objs.size,_,I.yieldPair (t':=s.toks+1) (x:=.int i) (y:=x) hf k2 e0 ⟨_,rfl⟩ ru,rfl,⟨_,x,hn,rfl,rfl,fun xs' h'=>by rw[I.tuple_inj h' ha];exact hx⟩,?_,fun c hc=>?_⟩
  ·refine⟨⟨u,?_⟩,j1.at fun o e'=>sb.extBut _ o (E8 hne) e'⟩
   have e1:((i+1:Nat):Int)=(i:Int)+1:=by lia
   rw[e1];exact z2
  ·have hlt:c<s.heap.objs.size:=by
    simp only[C3,B6,or_false] at hc
    rcases hc with rfl|rfl
    ·exact elt
    ·exact ilt
   rw[v9 (m9 hlt)]
   exact(hf c hc).1
 done:=by
  intro X hP hw hK hc i pins s σ H E I hf st hg
  subst hP hw hK
  obtain⟨xs,ha,hx⟩:=hg
  obtain⟨its,r1,p1,_⟩:=I.tuple ha
  have hl:=r1.length
  refine Iz (I.ok.hd hc) st (show s.heap.IsTuple a its.toArray from p1) (by simp;lia) fun h' keep=>⟨rfl,I.turnedL (t':=s.toks) (ch:=[e,it]) (fun c o hc e=>keep c o (fun q=>hc (by simp[q])) e) hf⟩
 self:=fun _ _ _ _ _ st h=>let ⟨_,he⟩:=st.en;Pa he h
theorem BG:Z1 "enumerate"=some (.type "enumerate"):=by decide+kernel
def OJ (K:j7) (ta:TA):TI:=fun σ H R=>ta σ H fun vs H1=>∃a xs,vs=[.ref a]/\fC K H1 a xs/\R (Ite K a) H1
theorem Eb {e1:Expr}{es:List Expr}{kk:Nat}{pt p pos:Pos}{ta:TA} (hg:Gl X "enumerate") (hm:X.mg "enumerate"=none) (ha:PA X [e1] ta) (hs:A2 [e1] X.env=[(false,eval e1 X.env)]:=by rfl):
  PI X (.Tuple es kk pt) (.Call (.Name "enumerate" p) [e1] [] pos) (OJ X.K ta):=by
 intro pins s σ H R I h
 refine Call_ (mq I hg hm BG (Z5 (P1 (ha pos pins s σ H _ I h) fun us s1 ⟨vs,H1,I1,r1,q1⟩=>?_) (by rw[hs];rfl) (by rfl)))
 obtain⟨a,xs,rfl,hx,q⟩:=q1
 cases r1 with
 | cons ra rr =>
  cases rr
  cases ra
  obtain⟨its,r1,p1,_⟩:=I1.tuple hx
  refine yF (show s1.heap.IsTuple a its.toArray from p1) fun h' Z keep sz=>?_
  obtain⟨old,he⟩:=id Z.en
  refine Pa (s:={ s1 with heap:=h' }) he ?_
  have I2:C0 X pins σ H1 { s1 with heap:=h' }:=I1.kept (t':=s1.toks) keep
  refine⟨s1.heap.objs.size+1,[s1.heap.objs.size+1,s1.heap.objs.size],_,_,H1,rfl,I2,xk (by show s1.heap.objs.size+1≠s1.heap.objs.size;lia),Z,fun c hc=>?_,q⟩
  have hge:s1.heap.objs.size<=c:=by
   simp only[C3,B6,or_false] at hc
   rcases hc with rfl|rfl <;> first|exact M3 _ _|exact i9 _
  exact I1.fpOk hge (I1.hok.fresh hge)
end
section
variable {prog:i8}{w:t9}{A:y7}{E:b9->f6->Prop}{s:f6}
variable {d:Addr}{Q:b9->f6->Prop}
theorem pT (hd:(d == P7)=false) (hT:s.TypeIs (.ref d) "dict") (h:Q (.ref s.heap.objs.size) { s with heap:=s.heap.push { cls:=.type "dict_items",data:=.fields #[.ref d] } }):
  j6 (r0 prog w) A (call (.builtin "dict.items") [.ref d]) Q E s:=by
 have g:MeetsIn prog w (gF.«dict.items» ⟨[.ref d],[]⟩) (fun _ R s=>s.TypeIs (.ref d) "dict"/\R (.ok (.ret (.ref s.heap.objs.size))) { s with heap:=s.heap.push { cls:=.type "dict_items",data:=.fields #[.ref d] } }):=
  .of_wp fun A R s ⟨hm,h⟩=>by
   unfold gF.«dict.items»
   refine b7 ?_
   unfold Builtin.Dict.noArgs
   refine b7 (wpAny_notOrdered_dict hm ?_)
   show j6 _ _ (pure d) _ _ s
   refine g0 ?_
   show j6 _ _ (qC d >>= _) _ _ s
   unfold qC
   rw[if_neg (by rw[hd];exact u7)]
   refine b7 (g0 ?_)
   exact b7 (E6 (g0 ⟨_,rfl,h⟩))
 exact kG gz hT PySem.F.entry_dict_items (PySem.F.args_dict_items_1 _) g ⟨hT,h⟩
variable {od:Obj}{es:Array M6}{ep:Nat}
theorem mV {v:Addr}(hv:s.heap.IsItemsView v d) (ho:s.heap.get? d=some od) (hdat:od.data=.dict es ep)
  (hQ:Q (.ref s.heap.objs.size) { s with heap:=s.heap.push { cls:=.type "dict_itemiterator",data:=.fields #[.none,.bool false,.ref d,.int 0 0,.int es.size 0,.int ep 0,.none,.none] } }):
  j6 (r0 prog w) A (qv (.ref v)) Q E s:=by
 obtain⟨ov,hov,hcv,hdv⟩:=id hv
 refine OZ hv.typeIs Cw (J7 Cw hv.typeIs F.entry_dict_items_iter ?_ (F.args_dict_items_iter_1 _))
 unfold gF.«dict_items.__iter__»
 refine b7 (g0 ?_)
 refine b7 ?_
 unfold Builtin.Dict_items.dictOf
 refine b7 (C4 hov hdv (x:=.ref d) rfl (g0 ?_))
 refine b7 ?_
 unfold Builtin.Dict_items.newIterator
 refine b7 (dD ho hdat ?_)
 refine b7 (fO ho hdat ?_)
 have hown:Q8 "dict_itemiterator"=true:=by decide
 simp only[hown,if_true]
 refine E6 (g0 ⟨_,rfl,"dict_itemiterator",_,⟨_,j8 _ rfl,rfl⟩,F.slot_dict_itemiterator_next.lookup,?_⟩)
  (by simp only[sizeOk,fR,A0,y6,m8,X6,X0];lia)
 simpa [P0,fR] using hQ
variable {it:Addr}{i:Nat}{ov:b9}
theorem mW {en:M6}{ok:b9}{Q:Option b9->f6->Prop} (hit:bG s.heap it d i es.size ep ok ov)
  (hod:s.heap.get? d=some od) (hdd:od.data=.dict es ep) (hx:es[i]?=some en)
  (hQ:∀h',Cu h' it d (i+1) es.size ep en.key en.val s.heap.objs.size->h'.get? s.heap.objs.size=some { cls:=.type "tuple",data:=.seq #[en.key,en.val] }->h'.objs.size=s.heap.objs.size+1 ->
   (∀b o,b≠it->s.heap.get? b=some o->h'.get? b=some o)->Q (some (.ref s.heap.objs.size)) { s with heap:=h' }):j6 (r0 prog w) A (Y4 (.ref it)) Q E s:=by
 obtain⟨hp,g,dr,tk,os⟩:=s
 have hT:gv ⟨hp,g,dr,tk,os⟩ (.ref it) "dict_itemiterator":=⟨_,hit,rfl⟩
 unfold Y4
 refine b7 (W2 (J1 (name:=M5 "__next__") hT G8
  (J7 G8 hT aa ?_ (Z4 _))))
 refine b7 (g0 ?_)
 refine b7 ?_
 refine b7 ?_
 first|refine b7 (G5 hT (g0 ?_))|refine b7 (L5 hT (g0 ?_))
 refine b7 (dB hit rfl ?_)
 have hown:Q8 "dict_itemiterator"=true:=by decide
 simp only[hown,if_true]
 show j6 _ _ (if (n9 d == A3)=true then _ else _) _ _ _
 rw[if_neg (show ¬ ((n9 d == A3)=true) from u7)]
 refine b7 (g0 ?_)
 refine b7 (dD hod hdd ?_)
 rw[if_neg (by simp)]
 refine b7 (g0 ?_)
 refine b7 (fO hod hdd ?_)
 rw[if_neg (by simp)]
 refine g0 ?_
 obtain⟨hlt',hen⟩:=Array.getElem?_eq_some_iff.mp hx
 simp only[show ¬ ((i:Int)<0) from by lia,if_false,Q4,hx]
 refine b7 ?_
 first|refine b7 (G5 hT (g0 ?_))|refine b7 (L5 hT (g0 ?_))
 refine b7 (R1 hT ?_)
 show j6 _ _ (jJ (.ref it) 3 (P0 ((i:Int)+1)) >>= _) _ _ ⟨hp,g,dr,tk,os⟩
 refine b7 (D5 hit (by simp) fun h1 he1 s1=>?_)
 replace s1:E7 it hp h1:=s1
 replace he1:bG h1 it d (i+1) es.size ep ok ov:=by
  have e:((i+1:Nat):Int)=(i:Int)+1:=by lia
  unfold bG;rw[e];simpa [P0] using he1
 have hT1:gv ⟨h1,g,dr,tk,os⟩ (.ref it) "dict_itemiterator":=⟨_,he1,rfl⟩
 refine b7 (F0 ?_)
 refine b7 (R1 hT1 ?_)
 refine b7 (R1 hT1 ?_)
 show j6 _ _ (S9 (.ref it) 6 en.key en.val) _ _ ⟨h1,g,dr,tk,os⟩
 unfold S9
 refine b7 (il ?_)
 have he2:bG (h1.push { cls:=.type "tuple",data:=.seq #[en.key,en.val] }) it d (i+1) es.size ep ok ov:=d9 _ he1
 generalize hh2:h1.push { cls:=.type "tuple",data:=.seq #[en.key,en.val] }=h2 at he2
 have hz1:h1.objs.size=hp.objs.size:=s1.1
 have hil:it<hp.objs.size:=i5 hit
 have ht2:h2.get? hp.objs.size=some { cls:=.type "tuple",data:=.seq #[en.key,en.val] }:=by rw[<- hh2,<- hz1];exact j8 _ rfl
 have hz2:h2.objs.size=hp.objs.size+1:=by rw[<- hh2,C5,hz1]
 have hk2:∀b o,b≠it->hp.get? b=some o->h2.get? b=some o:=fun b o hb e=>by rw[<- hh2];exact d9 _ (s1.extBut b o hb e)
 show j6 _ _ (R6 (.ref it) >>= _) _ _ ⟨h2,g,dr,tk,os⟩
 rw[hz1]
 clear hh2 he1 s1 hT1 hz1 h1
 refine b7 ?_
 unfold R6
 refine b7 (C4 he2 rfl (x:=.none) rfl (g0 ?_))
 simp only[if_true]
 refine b7 (C4 he2 rfl (x:=ok) rfl ?_)
 refine b7 (C4 he2 rfl (x:=ov) rfl ?_)
 refine b7 (D5 he2 (by simp) fun h3 he3 s3=>?_)
 replace s3:E7 it h2 h3:=s3
 replace he3:bG h3 it d (i+1) es.size ep en.key ov:=he3
 refine b7 (D5 he3 (by simp) fun h4 he4 s4=>?_)
 replace s4:E7 it h3 h4:=s4
 replace he4:bG h4 it d (i+1) es.size ep en.key en.val:=he4
 refine b7 (D5 he4 (by simp) fun h5 he5 s5=>?_)
 replace s5:E7 it h4 h5:=s5
 replace he5:Cu h5 it d (i+1) es.size ep en.key en.val hp.objs.size:=he5
 refine b7 (D5 he5 (by simp) fun h6 he6 s6=>?_)
 replace s6:E7 it h5 h6:=s6
 replace he6:Cu h6 it d (i+1) es.size ep en.key en.val hp.objs.size:=he6
 refine b7 (wC (g0 (g0 ⟨_,rfl,g0 (hQ h6 he6 ?_ ?_ ?_)⟩)))
 ·exact s6.extBut _ _ (B7 hil) (s5.extBut _ _ (B7 hil) (s4.extBut _ _ (B7 hil) (s3.extBut _ _ (B7 hil) ht2)))
 ·show h6.objs.size=hp.objs.size+1
  rw[s6.1,s5.1,s4.1,s3.1,hz2]
 ·exact fun b o hb e=>s6.extBut b o hb (s5.extBut b o hb (s4.extBut b o hb (s3.extBut b o hb (hk2 b o hb e))))
theorem pU {ok:b9}{Q:Option b9->f6->Prop} (hh:A.handled=none) (hit:bG s.heap it d i es.size ep ok ov)
  (hod:s.heap.get? d=some od) (hdd:od.data=.dict es ep) (hge:es.size<=i) (hQ:∀h',gE it s.heap h'->Q none { s with heap:=h' }):j6 (r0 prog w) A (Y4 (.ref it)) Q E s:=by
 have hT:s.TypeIs (.ref it) "dict_itemiterator":=⟨_,hit,rfl⟩
 unfold Y4
 refine b7 (W2 (J1 (name:=M5 "__next__") hT G8
  (J7 G8 hT aa ?_ (Z4 _))))
 refine b7 (g0 ?_)
 refine b7 ?_
 refine b7 ?_
 first|refine b7 (G5 hT (g0 ?_))|refine b7 (L5 hT (g0 ?_))
 refine b7 (dB hit rfl ?_)
 have hown:Q8 "dict_itemiterator"=true:=by decide
 simp only[hown,if_true]
 show j6 _ _ (if (n9 d == A3)=true then _ else _) _ _ s
 rw[if_neg (show ¬ ((n9 d == A3)=true) from u7)]
 refine b7 (g0 ?_)
 refine b7 (dD hod hdd ?_)
 rw[if_neg (by simp)]
 refine b7 (g0 ?_)
 refine b7 (fO hod hdd ?_)
 rw[if_neg (by simp)]
 refine g0 ?_
 simp only[show ¬ ((i:Int)<0) from by lia,if_false,Q4,wW hge]
 refine b7 ?_
 first|refine b7 (G5 hT (g0 ?_))|refine b7 (L5 hT (g0 ?_))
 show j6 _ _ (jJ (.ref it) 2 .none >>= _) _ _ s
 refine b7 (T7 hit rfl (by simp) ?_)
 show j6 _ _ (GB (.type "StopIteration") [] >>= _) _ _ _
 refine b7 ?_
 simp only[GB,JM]
 refine b7 (E6 ?_ (by size_fits))
 refine b7 (m:=dG _ _) (wB (a:=A3) (by first|rfl | (simp only[dG];rfl)) ?_)
 refine E6 ?_ (by size_fits)
 simp only[raiseNew]
 refine b7 (Ce ?_)
 rw[show A.in1.handled=none from hh]
 refine b7 (g0 (wA ?_))
 refine b7 (jG (T:="StopIteration") (b:=true) ⟨_,j8 _ rfl,rfl⟩ ni ?_)
 exact g0 (hQ _ (((X2 ..).extBut.push _).push _))
theorem jz:entryFor table "dict_itemiterator.__iter__"=some gF.«dict_keyiterator.__iter__»:=entryFor_alias (id':="dict_keyiterator.__iter__") (by kernel_rfl) rfl (by decide+kernel) (by kernel_rfl)
theorem qJ {n:Nat}{ok:b9}(h:bG s.heap it d i n ep ok ov) (q:Q (.ref it) s):j6 (r0 prog w) A (qv (.ref it)) Q E s:=by
 have hT:s.TypeIs (.ref it) "dict_itemiterator":=⟨_,h,rfl⟩
 refine OZ hT uI (J7 uI hT jz ?_ (F.args_dict_itemiterator_iter_1 _))
 exact g0 ⟨_,rfl,"dict_itemiterator",_,hT,F.slot_dict_itemiterator_next.lookup,q⟩
end
section
variable {X:Cx}{pins:List (Addr × Obj)}{σ:St}{H:Hp}{s:f6}
noncomputable def OU (d:Addr) (o:Obj) (kvs:List (List O4 × V)):It :=
 ⟨fun i H=>H d=some (.frz o (.dT kvs))/\i<kvs.length,fun i H v H'=>∃p ka k x,H p=none/\v=.ref p/\H'=A6 H p (.tup [.ref ka,x])/\kvs[i]?=some (k,x)/\H ka=some (.tup (k.map kV)),fun i H=>H d=some (.frz o (.dT kvs))/\kvs.length<=i⟩
theorem Paired.get {α β:Type}{F:α->β->Prop}:∀{l:List α}{m:List β}{i:Nat}{a:α},Ax F l m->l[i]?=some a->∃b,m[i]?=some b/\F a b
 | _::_,_::_,0,_,.cons r _,h=>by cases h;exact⟨_,rfl,r⟩
 | _::_,_::_,i+1,_,.cons _ t,h=>by
  obtain⟨b,e,r⟩:=Paired.get (i:=i) t (by simpa using h)
  exact⟨b,by simpa using e,r⟩
variable {d:Addr}{kvs:List (List O4 × V)}
theorem C0.frzT {o:Obj}{es:Array M6}{ep:Nat} (I:C0 X pins σ H s) (e:H d=some (.frz o (.dT kvs))) (hd:o.data=.dict es ep):
  s.heap.get? d=some o/\es.size=kvs.length/\∀(i:Nat) (k:List O4) (x:V),kvs[i]?=some (k,x)->∃(ka:Addr) (u:b9) (en:M6),es[i]?=some en/\en.key=.ref ka/\en.val=u/\H ka=some (.tup (k.map kV))/\G9 x u:=by
 obtain⟨h1,_,_,xs,r,o',es',ep',h2,_,h3,h4,_⟩:=(show P2 X.prog X.w H s.heap d (.frz o (.dT kvs)) from I.hok d _ e)
 rw[h1] at h2
 cases h2
 rw[hd] at h3
 cases h3
 have hl:es.size=kvs.length:=by
  rw[<- B8,h4,d8];exact(dm r).symm
 refine⟨h1,hl,fun i k x hx=>?_⟩
 obtain⟨q,hq,f1,f2,f3⟩:=Paired.get r hx
 refine⟨q.2.1,q.2.2,Ng (bL (O7 X.prog X.w)) q,?_,rfl,rfl,f2,f3⟩
 rw[<- O8,h4,v8,hq];rfl
theorem xj {P:i8}{w:t9}{K:j7}{els:List Expr}{kk:Nat}{pos:Pos}{it:Addr}{o:Obj}{es:Array M6}{ep:Nat} (hd:o.data=.dict es ep):
  nE P w K (.Tuple els kk pos) (OU d o kvs) [it] it (fun i h=>∃ok ov,bG h it d i es.size ep ok ov) where
 mem:=by simp
 obj:=fun i h st c hc=>by
  obtain⟨ok,ov,he⟩:=st
  simp only[C3,B6,or_false] at hc
  subst hc
  exact⟨_,he,fun v q=>by cases q⟩
 keep:=fun i h h' st k=>let ⟨ok,ov,he⟩:=st;⟨ok,ov,k _ (by simp) _ he⟩
 item:=by
  intro X hP hw hK hc i pins s σ H E I hf st hg
  subst hP hw hK
  obtain⟨hF,hi⟩:=hg
  obtain⟨ok,ov,he⟩:=st
  obtain⟨h1,hsz,hget⟩:=I.frzT hF hd
  obtain⟨⟨k,x⟩,hkx⟩:∃kx,kvs[i]?=some kx:=⟨_,i6 hi⟩
  obtain⟨ka,u,en,e1,e2,e3,e4,ru⟩:=hget i k x hkx
  refine mW he h1 hd e1 fun h' z1 new sz keep=>?_
  rw[e2,e3] at z1 new
  refine⟨_,rfl,wpAny_letOwnedTupleGo_items (s:={ s with heap:=h' }) z1 fun h2 z2 sb=>?_⟩
  have ilt:it<s.heap.objs.size:=i5 he
  have k2:∀c o,c ∉ [it]->s.heap.get? c=some o->h2.get? c=some o:=fun c o hc q=>sb.extBut _ _ (fun z=>hc (by simp[z])) (keep c o (fun z=>hc (by simp[z])) q)
  have e0:h2.get? s.heap.objs.size=some { cls:=.type "tuple",data:=.seq #[.ref ka,u] }:=sb.extBut _ _ (B7 ilt) new
  have hn:H s.heap.objs.size=none:=I.hok.fresh (i9 _)
  refine⟨.ref s.heap.objs.size,_,I.yieldPair (t':=s.toks) (x:=.ref ka) (y:=x) hf k2 e0 rfl ru,rfl,⟨_,ka,k,x,hn,rfl,rfl,hkx,e4⟩,⟨_,_,z2⟩,fun c hc=>?_⟩
  have hlt:c<s.heap.objs.size:=by
   simp only[C3,B6,or_false] at hc
   subst hc;exact ilt
  rw[v9 (m9 hlt)]
  exact(hf c hc).1
 done:=by
  intro X hP hw hK hc i pins s σ H E I hf st hg
  subst hP hw hK
  obtain⟨hF,hi⟩:=hg
  obtain⟨ok,ov,he⟩:=st
  obtain⟨h1,hsz,_⟩:=I.frzT hF hd
  exact pU (I.ok.hd hc) he h1 hd (by lia) fun h' keep=>⟨rfl,I.turnedL (t':=s.toks) (ch:=[it]) (fun c o hc e=>keep c o (fun q=>hc (by simp[q])) e) hf⟩
 self:=fun _ _ _ _ _ st h=>let ⟨_,_,he⟩:=st;qJ he h
theorem C0.freeze (I:C0 X pins σ H s) (e:H d=some (.dT kvs)):∃o es ep,o.data=.dict es ep/\s.heap.get? d=some o/\C0 X pins σ (A6 H d (.frz o (.dT kvs))) s:=by
 have ok:=(show P2 X.prog X.w H s.heap d (.dT kvs) from I.hok d _ e)
 obtain⟨_,_,_,_,o,es,ep,ho,_,hd,_⟩:=id ok
 refine⟨o,es,ep,hd,ho,?_⟩
 have tup:∀b xs,H b=some (.tup xs)->A6 H d (.frz o (.dT kvs)) b=some (.tup xs):=fun b xs q=>by
  rw[v9 (gn q e (by intro z;cases z))];exact q
 have own:∀b c,H b=some (.own c)->A6 H d (.frz o (.dT kvs)) b=some (.own c):=fun b c q=>by
  rw[v9 (gn q e (by intro z;cases z))];exact q
 have:=I.step (H':=A6 H d (.frz o (.dT kvs))) (h':=s.heap) (g':=s.gens) (d':=s.drawn) (t':=s.toks) (ch:=[]) (fun _ z=>nomatch z) (fun b o _ _ _ q _=>q) (fun b o _ _ _ q _=>⟨o.slots,q⟩)
  (fun b o _ _ n=>by
   by_cases hb:b=d
   ·subst hb;rw[e] at n;cases n
   ·rw[v9 hb];exact n) (fun b o _ q=>⟨o,q⟩) tup (fun b o u q=>by rw[v9 (gn q e (by intro z;cases z))];exact q) (fun b ps q=>⟨#[],by rw[v9 (gn q e (by intro z;cases z)),q];simp⟩) (fun m hm=>hm)
  (fun b ob q=>by
   by_cases hb:b=d
   ·subst hb
    rw[j0] at q;cases q
    exact⟨ho,ok.stay (fun c v _ q=>q) (fun c q=>own c _ q) tup⟩
   ·rw[v9 hb] at q
    exact(I.hok b ob q).stay (fun c v _ q=>q) (fun c q=>own c _ q) tup) I.bare
 exact this
def LW (td:TE):TI:=fun σ H R=>td σ H fun x H1=>∃d kvs,x=.ref d/\H1 d=some (.dT kvs)/\∀o,R (OU d o kvs) (A6 H1 d (.frz o (.dT kvs)))
theorem Ea {e:Expr}{els:List Expr}{kk:Nat}{pt apos cpos:Pos}{td:TE} (ho:PE X e td) (hbase:cz e "items" X.env (eval e X.env)=eval e X.env:=by rfl) (hline:(apos.endLine == cpos.line)=true:=by rfl):
  PI X (.Tuple els kk pt) (.Call (.Attribute e "items" apos) [] [] cpos) (LW td):=by
 intro pins s σ H R I h
 refine Gd hbase hline (P1 (ho pins s σ H _ I h) fun v s1 ⟨x,H1,I1,r1,d,kvs,ex,hd,q⟩=>?_)
 subst ex
 cases r1
 obtain⟨o,es,ep,hdat,hob,I2⟩:=I1.freeze hd
 obtain⟨_,hsys,_,_,o',_,_,hob',hex,_⟩:=(show P2 X.prog X.w H1 s1.heap d (.dT kvs) from I1.hok d _ hd)
 rw[hob] at hob'
 cases hob'
 refine⟨"dict","dict.items",bK,gz,uC,⟨o,hob,hex.1⟩,fun a e=>by cases e;exact⟨o,hob,hex.2.1⟩,ae rfl (BV ?_)⟩
 refine pT hsys ⟨o,hob,hex.1⟩ ?_
 refine mV (s:={ s1 with heap:=s1.heap.push { cls:=.type "dict_items",data:=.fields #[.ref d] } }) ⟨_,j8 _ rfl,rfl,rfl⟩ (d9 _ hob) hdat ?_
 have I3:C0 X pins σ (A6 H1 d (.frz o (.dT kvs))) { s1 with heap:=s1.heap.push { cls:=.type "dict_items",data:=.fields #[.ref d] } }:=I2.kept (t':=s1.toks) fun b o e=>d9 _ e
 refine⟨_,[_],_,_,A6 H1 d (.frz o (.dT kvs)),rfl,I3.kept (t':=s1.toks) fun b o e=>d9 _ e,xj hdat,⟨_,_,j8 _ rfl⟩,fun b hb=>?_,q o⟩
 have e:b=(s1.heap.push { cls:=.type "dict_items",data:=.fields #[.ref d] }).objs.size:=by simpa using hb
 subst e
 exact I3.fpOk (i9 _) (I3.hok.fresh (i9 _))
end
section
variable {X:Cx}
def tDT1 (tk tv:TE):TE:=fun σ H Q=>∀p,H p=none->tk σ (A6 H p (.dT [])) fun y H1=>tv σ H1 fun x H2=>H2 p=some (.dT [])/\∃b ks,y=.ref b/\H2 b=some (.tup (ks.map kV))/\Q (.ref p) (A6 H2 p (.dT [(ks,x)]))
theorem Lh {k v:Expr}{tk tv:TE}{pos:Pos} (hu:X.A.units+1<dj) (hk:PE X k tk) (hv:PE X v tv):PE X (.Dict [some k] [v] pos) (tDT1 tk tv):=by
 intro pins s σ H Q I q
 have hn:=I.hok.fresh (i9 s.heap.objs.size)
 have I1:=I.laid (a:=s.heap.objs.size) (o:=.dT []) (h':=s.heap.push { cls:=.type "dict",data:=.dict #[] }) (t':=s.toks) (fun _ _ q=>d9 _ q) (i9 _) (vQ s.heap I.big)
 refine wpAny_Dict_any rfl rfl (by simp) (by simp) (pairTrees_cons_walk (P1 (hk pins _ σ _ _ I1 (q _ hn)) fun u s1 ⟨y,H1,I2,ry,q1⟩=>P1 (hv pins s1 σ H1 _ I2 q1) fun r s2 ⟨x,H2,I3,rx,e,b,ks,ey,eb,q2⟩=>pairTrees_nil_walk ?_))
 subst ey
 cases ry
 unfold storeAll
 rw[eT]
 obtain⟨z,hd,xs,rel,dd⟩:=Jw I3.hok e
 have hz:xs.length<=i7:=by rw[<- dm rel];exact z
 refine b7 (b7 (wpAny_dictSet_heap (hsz:=hz) (knd:=bL (O7 X.prog X.w)) (show (bL (O7 X.prog X.w)).room X.A from Nat.lt_of_succ_lt hu) (jZ I3.hok eb) dd fun h' dd' hs=>g0 ?_))
 show j6 _ _ (forIn [] PUnit.unit _) _ _ _
 rw[cK]
 refine g0 ⟨.ref s.heap.objs.size,_,?_,rfl,q2⟩
 obtain⟨qo,es,ep,hq,h2,h3,h4,_,h5⟩:=dd'
 refine nX I3 (by rw[e];exact V7) hs ⟨qo,hq⟩ ⟨by show 1<=i7;decide,hd,_,(rel.put ks eb rx).keeps fun c ys ec=>?_,qo,es,ep,hq,h2,h3,h4,h5⟩
 rw[v9 (gn ec e (fun z=>nomatch z))]
 exact ec
end
section
theorem Br {d:Addr}{o:Obj}{kvs:List (List O4 × V)}{g:TG}{tb:TS}{D:nF}{σ:St}{H:Hp} (Pv:Nat->St->Hp->Prop) (h0:Pv 0 σ H) (hl:∀i σ H,i<=kvs.length->Pv i σ H->H d=some (.frz o (.dT kvs)))
  (hs:∀i k x σ H p ka,kvs[i]?=some (k,x)->H p=none->H ka=some (.tup (k.map kV))->Pv i σ H->g (.ref p) σ (A6 H p (.tup [.ref ka,x])) fun σ2 H2=>tb { D with nx:=Pv (i+1),ct:=Pv (i+1),bk:=D.nx } σ2 H2) (hd:∀σ H,Pv kvs.length σ H->D.nx σ H):
  ∃W:Nat->Nat->St->Hp->Prop,(∃m,W 0 m σ H)/\∀i m σ H,W i m σ H ->
   ((OU d o kvs).stop i H/\D.nx σ H) ∨ ((OU d o kvs).go i H/\∃N:St->Hp->Prop,(∀σ' H',N σ' H'->∃m',m'<m/\W (i+1) m' σ' H')/\∀x H',(OU d o kvs).yld i H x H'->g x σ H' fun σ2 H2=>tb { D with nx:=N,ct:=N,bk:=D.nx } σ2 H2):=by
 refine⟨fun i m σ H=>m=kvs.length - i/\i<=kvs.length/\Pv i σ H,⟨kvs.length,by simp,A7 _,h0⟩,?_⟩
 rintro i m σ H ⟨rfl,hi,p⟩
 have q:=hl i σ H hi p
 rcases PQ i kvs.length with h|h
 ·refine .inr ⟨⟨q,h⟩,Pv (i+1),fun σ' H' p'=>⟨_,by lia,rfl,by lia,p'⟩,fun x H' y=>?_⟩
  obtain⟨pp,ka,k,x',hp,rfl,rfl,hx,hk⟩:=y
  exact hs i k x' σ H pp ka hx hp hk p
 ·have e:i=kvs.length:=by lia
  subst e
  exact .inl ⟨⟨q,i9 _⟩,hd σ H p⟩
theorem wk2 {σ0:St} (hσ:σ0[0]?=some none/\σ0[1]?=some none) (x y:V):Wk σ0 ((σ0.set 0 (some x)).set 1 (some y)):=by
 refine⟨by simp,fun j u e=>?_⟩
 by_cases h1:j=1
 ·subst h1;rw[hσ.2] at e;cases e
 ·rw[N6 (E8 h1)]
  by_cases h2:j=0
  ·subst h2;rw[hσ.1] at e;cases e
  ·rw[N6 (E8 h2)];exact e
theorem FN {K:j7}{a:Addr}{xs:List V}{σ0:St}{tc:TT}{te:TE}{H:Hp}{F:List V->Hp->Prop} (hn:xs.length<=i7) (Pv:Nat->List V->Hp->Prop) (h0:Pv 0 [] H) (hl:∀i ys H,Pv i ys H->ys.length<=i)
  (hq:∀i ys H,i<=xs.length->Pv i ys H->fC K H a xs) (hσ:σ0[0]?=some none/\σ0[1]?=some none)
  (hs:∀i ys H x p,xs[i]?=some x->H p=none->Pv i ys H->tc ((σ0.set 0 (some (.int i))).set 1 (some x)) (A6 H p (.tup [.int i,x])) fun b H5=>if b=true then te ((σ0.set 0 (some (.int i))).set 1 (some x)) H5 (fun z H'=>Pv (i+1) (ys++[z]) H') else Pv (i+1) ys H5)
  (hd:∀ys H,Pv xs.length ys H->F ys H):BN (Ite K a) σ0 (Bq K 2 (lh (R7 0) (lh (R7 1) Fs))) tc te H F:=by
 refine⟨fun i m ys H=>m=xs.length - i/\i<=xs.length/\Pv i ys H,⟨xs.length,by simp,A7 _,h0⟩,?_⟩
 rintro i m ys H2 ⟨rfl,hi,p⟩
 have q:=hq i ys H2 hi p
 have hlen:=hl i ys H2 p
 refine⟨by lia,?_⟩
 by_cases hlt:i<xs.length
 ·refine .inr ⟨⟨xs,xs[i],q,by simp[hlt]⟩,fun y H'=>Pv (i+1) (ys++[y]) H',fun H'=>Pv (i+1) ys H',fun y H' q=>⟨xs.length - (i+1),by lia,rfl,hlt,q⟩,fun H' q=>⟨xs.length - (i+1),by lia,rfl,hlt,q⟩,fun v H3 yld=>?_⟩
  obtain⟨r,x,hr,rfl,rfl,hx⟩:=yld
  exact⟨r,[.int i,x],rfl,.of j0,rfl,.int i,[x],rfl,x,[],rfl,rfl,wk2 hσ _ _,hs i ys _ x r (hx xs q) hr p⟩
 ·have e:i=xs.length:=by lia
  subst e
  exact .inl ⟨⟨xs,q,i9 _⟩,hd ys H2 p⟩
end
end L2
namespace Mt
def fr (q:Rat):List Int:=[q.num,(q.den:Int)]
def cut (t b:Int):Rat:=mkRat t b.toNat
variable {b:Int}
theorem nY {t:Int} (hb:0<b):(cut t b).num=t / (Z3 t b:Int):=by
 have h:b.toNat≠0:=by lia
 unfold cut
 rw[mE,dif_neg h,Rat.num_normalize]
 have e:b.toNat=b.natAbs:=by lia
 rw[e];rfl
theorem ue {t:Int} (hb:0<b):((cut t b).den:Int)=b / (Z3 t b:Int):=by
 have h:b.toNat≠0:=by lia
 unfold cut
 rw[mE,dif_neg h,Rat.den_normalize]
 have e:b.toNat=b.natAbs:=by lia
 rw[e,Int.natCast_ediv]
 have e2:((b.natAbs:Nat):Int)=b:=by lia
 rw[e2];rfl
theorem LZ {t:Int} (hb:0<b):fr (cut t b)=[t / (Z3 t b:Int),b / (Z3 t b:Int)]:=by
 unfold fr;rw[nY hb,ue hb]
theorem IE (p q:Rat):cut (p.num*q.num) ((p.den:Int)*(q.den:Int))=p*q:=by
 unfold cut
 rw[Rat.mul_def,mE]
 have e:((p.den:Int)*(q.den:Int)).toNat=p.den*q.den:=by rw[<- jD];rfl
 have hp:=p.den_nz;have hq:=q.den_nz
 have h:p.den*q.den≠0:=jC hp hq
 rw[dif_neg (by rw[e];exact h)]
 congr 1
theorem IG (p q:Rat):cut (p.num*(q.den:Int)+q.num*(p.den:Int)) ((p.den:Int)*(q.den:Int))=p+q:=by
 unfold cut
 rw[Rat.add_def,mE]
 have e:((p.den:Int)*(q.den:Int)).toNat=p.den*q.den:=by rw[<- jD];rfl
 have hp:=p.den_nz;have hq:=q.den_nz
 have h:p.den*q.den≠0:=jC hp hq
 rw[dif_neg (by rw[e];exact h)]
 congr 1
theorem LY {p q:Rat} (h:fr p=fr q):p=q:=by
 unfold fr at h
 simp only[List.cons.injEq,and_true] at h
 exact Rat.ext h.1 (by lia)
structure Bd (n:Nat) (q:Rat):Prop where
 num:q.num.natAbs<=2 ^ n
 den:q.den<=2 ^ n
theorem iY (a:Int) (g:Nat):(a / (g:Int)).natAbs<=a.natAbs:=by
 rcases nj g with h|h
 ·subst h;simp
 ·have h0:(0:Int)<g:=by lia
  rcases Int.le_total 0 a with ha|ha
  ·have h1:0<=a / (g:Int):=ML ha (by lia)
   have h2:a / (g:Int)<=a:=qB _ ha
   lia
  ·have h1:a<=a / (g:Int):=by
    rw[Int.le_ediv_iff_mul_le h0]
    have:a*(g:Int)<=a*1:=Int.mul_le_mul_of_nonpos_left ha (by lia)
    lia
   have h2:a / (g:Int)<=0:=by
    have:=Int.ediv_le_ediv h0 ha
    simpa using this
   lia
theorem Bd.cut {t b:Int}{n:Nat} (hb:0<b) (h1:t.natAbs<=2 ^ n) (h2:b.natAbs<=2 ^ n):Bd n (Mt.cut t b):=by
 refine⟨?_,?_⟩
 ·rw[nY hb];exact j9 (iY _ _) h1
 ·have:=ue (t:=t) hb
  have l:=iY b (Z3 t b)
  lia
def Y8:List Int->List Int->List Int:=List.zipWith (·+·)
def fZ (ns:List Int) (k:Nat):Rat:=cut (ns.getD k 0) ns.sum
structure gx (n m:Nat) (ns:List Int):Prop where
 len:ns.length=n
 nn:∀x∈ns,0<=x/\x<=m
 pos:0<ns.sum
structure JC (n m:Nat) (r:List Int):Prop where
 len:r.length=n
 nn:∀x∈r,0<=x/\x<=m
structure kB (n m:Nat) (rs:List (List Int)):Prop where
 len:rs.length=n
 row:∀r∈rs,JC n m r
theorem kB.at {n m:Nat}{rs:List (List Int)} (h:kB n m rs) {k:Nat} (hk:k<n):JC n m (rs.getD k []):=by
 have hk':k<rs.length:=by rw[h.len];exact hk
 have:rs.getD k []=rs[k]:=by rw[E9,i6 hk'];rfl
 rw[this];exact h.row _ (O0 hk')
theorem eF:∀{l:List Int},(∀x∈l,0<=x)->0<=l.sum
 | [],_=>by simp
 | a::l,h=>by
  rw[P9]
  have h1:=h a f9
  have h2:=eF fun x hx=>h x (i4 _ hx)
  lia
theorem sum_le {m:Int}:∀{l:List Int},(∀x∈l,x<=m)->l.sum<=m*(l.length:Int)
 | [],_=>by simp
 | a::l,h=>by
  rw[P9,m8]
  have h1:=h a f9
  have h2:=sum_le fun x hx=>h x (i4 _ hx)
  have e:m*((l.length+1:Nat):Int)=m*(l.length:Int)+m:=by rw[Int.natCast_add,Int.mul_add];simp
  lia
theorem wm:∀{a b:List Int},a.length=b.length->(Y8 a b).sum=a.sum+b.sum
 | [],[],_=>by simp[Y8]
 | x::a,y::b,h=>by
  have ih:=wm (a:=a) (b:=b) (by simpa using h)
  show ((x+y)::Y8 a b).sum=_
  rw[P9,P9,P9,ih];lia
 | [],_::_,h=>by simp at h
 | _::_,[],h=>by simp at h
theorem wq:∀{a b:List Int}{x:Int},x∈Y8 a b->∃y∈a,∃z∈b,x=y+z
 | [],b,x,h=>by simp[Y8] at h
 | _::_,[],x,h=>by simp[Y8] at h
 | p::a,q::b,x,h=>by
  rcases List.mem_cons.mp (show x∈(p+q)::Y8 a b from h) with e|h
  ·exact⟨p,f9,q,f9,e⟩
  ·obtain⟨y,hy,z,hz,e⟩:=wq h
   exact⟨y,i4 _ hy,z,i4 _ hz,e⟩
theorem gx.add {n m j:Nat}{ns r:List Int} (h:gx n m ns) (hr:JC n j r):gx n (m+j) (Y8 ns r):=by
 have hl:ns.length=r.length:=by rw[h.len,hr.len]
 refine⟨?_,fun x hx=>?_,?_⟩
 ·unfold Y8;rw[eX,h.len,hr.len];lia
 ·obtain⟨y,hy,z,hz,e⟩:=wq hx
  have:=h.nn y hy;have:=hr.nn z hz;lia
 ·rw[wm hl]
  have:=eF (l:=r) fun x hx=>(hr.nn x hx).1
  have:=h.pos;lia
theorem gx.getD {n m:Nat}{ns:List Int} (h:gx n m ns) (k:Nat):0<=ns.getD k 0/\ns.getD k 0<=m:=by
 rw[E9]
 cases e:ns[k]? with
 | none=>simp
 | some x=>exact h.nn x (y8 e)
noncomputable def gI:List Rat->Rat
 | []=>0
 | q::r=>q+gI r
theorem mJ:∀a b:List Rat,gI (a++b)=gI a+gI b
 | [],b=>by show gI b=0+gI b;grind
 | q::a,b=>by show q+gI (a++b)=q+gI a+gI b;rw[mJ a b];grind
end Mt
namespace Md
open PySem PySem.Spec L2 Mt
def kI (ns:List Int):List O4:=ns.map cU
theorem zN (ns:List Int):(kI ns).map kV=ns.map V.int:=by
 unfold kI;rw[cJ];rfl
theorem pS:∀{a b:List Int},kI a=kI b->a=b
 | [],[],_=>rfl
 | [],_::_,h=>by cases h
 | _::_,[],h=>by cases h
 | x::a,y::b,h=>by
  have h':(cU x:O4)::kI a=cU y::kI b:=h
  injection h' with h1 h2
  injection h1 with h1
  rw[h1,pS h2]
def dl (k:List Int):List Int->Int:=fun k'=>if k'=k then 1 else 0
noncomputable def eE (rs:List (List Int)) (u:List Int):Nat->List Int->List (Int × List Int)
 | _,[]=>[]
 | i,b::bs=>if 0<b then (b,Y8 u (rs.getD i []))::eE rs u (i+1) bs else eE rs u (i+1) bs
noncomputable def qY (rs:List (List Int)) (u:List Int):List (Int × List Int):=eE rs u 0 u
theorem lJ (rs:List (List Int)) (u:List Int) (i:Nat) (b:Int) (bs:List Int):eE rs u i (b::bs)=if 0<b then (b,Y8 u (rs.getD i []))::eE rs u (i+1) bs else eE rs u (i+1) bs:=rfl
theorem kZ {rs:List (List Int)}{u:List Int}:∀{bs:List Int}{i:Nat}{b:Int × List Int},b∈eE rs u i bs->∃j,j<bs.length/\b.1=bs.getD j 0/\b.2=Y8 u (rs.getD (i+j) [])
 | [],_,_,h=>by unfold eE at h;simp at h
 | x::bs,i,b,h=>by
  unfold eE at h
  split at h
  ·rcases List.mem_cons.mp h with e|e
   ·subst e;exact⟨0,by simp,rfl,rfl⟩
   ·obtain⟨j,h1,h2,h3⟩:=kZ e
    exact⟨j+1,by simp;lia,by rw[h2];rfl,by rw[h3,show i+1+j=i+(j+1) by lia]⟩
  ·obtain⟨j,h1,h2,h3⟩:=kZ h
   exact⟨j+1,by simp;lia,by rw[h2];rfl,by rw[h3,show i+1+j=i+(j+1) by lia]⟩
theorem pM {rs:List (List Int)}{u:List Int}:∀(bs:List Int) (i:Nat),(eE rs u i bs).length<=bs.length
 | [],_=>by unfold eE;simp
 | x::bs,i=>by
  unfold eE
  have:=pM (rs:=rs) (u:=u) bs (i+1)
  split <;> simp <;> lia
noncomputable def qO (rs:List (List Int)) (i:Nat):List Int->Nat->Int
 | [],_=>0
 | c::cs,j=>c*(rs.getD j []).getD i 0+qO rs i cs (j+1)
noncomputable def Gq (u:List Int) (rs:List (List Int)) (c:List Int):List Int:=(O5 u.length).map fun i=>u.getD i 0+qO rs i c 0
def MS (c:List Int) (i:Nat):List Int:=c.set i (c.getD i 0+1)
theorem vX (rs:List (List Int)) (i:Nat):∀(c:List Int) (j k:Nat),k<c.length->qO rs i (MS c k) j=qO rs i c j+(rs.getD (j+k) []).getD i 0
 | [],_,_,h=>by simp at h
 | x::c,j,0,_=>by
  show (x+1)*_+qO rs i c (j+1)=x*_+qO rs i c (j+1)+_
  rw[Int.add_mul];simp;lia
 | x::c,j,k+1,h=>by
  have ih:=vX rs i c (j+1) k (by simpa using h)
  show x*_+qO rs i (MS c k) (j+1)=x*_+qO rs i c (j+1)+_
  rw[ih,show j+1+k=j+(k+1) by lia];lia
theorem IL {n:Nat}{u c:List Int}{rs:List (List Int)}{k:Nat} (hu:u.length=n) (hc:c.length=n) (hR:kB n 5 rs) (hk:k<n):Gq u rs (MS c k)=Y8 (Gq u rs c) (rs.getD k []):=by
 have hr:=hR.at hk
 have l1:(Gq u rs c).length=n:=by unfold Gq;simp[hu]
 apply cL
 intro i
 unfold Y8
 rw[AA]
 unfold Gq
 rw[v8,v8]
 by_cases hi:i<n
 ·rw[Cr (by lia)]
  rw[i6 (l:=rs.getD k []) (by rw[hr.len];exact hi)]
  simp only[bF]
  rw[vX rs i c 0 k (by lia),br]
  congr 1
  rw[show (rs.getD k []).getD i 0=(rs.getD k [])[i]'(by rw[hr.len];exact hi) by rw[E9 (l:=rs.getD k []),i6 (by rw[hr.len];exact hi)];rfl]
  lia
 ·rw[V9 (by simp;lia)]
  simp
theorem rN (rs:List (List Int)) (i:Nat):∀(n j:Nat),qO rs i (aP n 0) j=0
 | 0,_=>rfl
 | n+1,j=>by
  show (0:Int)*_+qO rs i (aP n 0) (j+1)=0
  rw[rN rs i n (j+1)];lia
theorem FO (u:List Int) (rs:List (List Int)) (n:Nat):Gq u rs (aP n 0)=u:=by
 unfold Gq
 apply cL
 intro i
 rw[v8]
 by_cases hi:i<u.length
 ·rw[Cr hi,bF,rN,E9,i6 hi];simp
 ·rw[V9 (by simp;lia),V9 (by lia)];rfl
end Md
namespace L2
open PySem PySem.Spec PyProof.Rows
noncomputable abbrev lit (t:Addr):Obj:={ cls:=.type "list_iterator",data:=.fields #[.ref t,.int 0 0] }
section
variable {X:Cx}
end
section
variable {X:Cx}{K:j7}
end
section
variable {prog:i8}{w:t9}{A:y7}{E:b9->f6->Prop}{s:f6}
end
section
variable {X:Cx}
end
theorem Ma {CX:Ai}{P:i8}{w:t9}{K:j7}{mg:Str->Option b9}{base:Heap}{f:Addr}{name qual:Str}{params:bP}{body:List Stmt}{scope:M8}{dV kV doc pm cdv ct oc:b9}{an od:Option Addr}
  {osl:Array (Option b9)}{N ps:List Str}{sp:Sp} (lk:K.lookup f=some ⟨oc,od,.func (bM name qual params body scope dV kV doc pm an cdv ct),osl⟩) (hcd:eV K cdv qual=true) (S:B1 N ps scope)
  (len:∀vs H Q E,sp vs H Q E->vs.length=ps.length)
  (hbody:∀(A:y7) (outer:List Env) (s:f6) (H:Hp) (vs:List V) (Q:VK) (E:XK),sp vs H Q E ->
   ∃t,qu (dU CX P w K mg base N qual scope f cdv A outer s H E) body t/\t { nx:=fun _ H'=>Q .non H',rt:=Q } (start N vs) H):
  G7 P w K mg base CX 0 f (bM name qual params body scope dV kV doc pm an cdv ct) ps sp:=by
 refine⟨len,fun A outer s H args us vs Q E hr e0 hb r hsp=>?_⟩
 have hl:=len _ _ _ _ hsp
 have KX:K.In s.heap:=e0.mod.kin.keeps fun b o e=>(e0.bs b o e).1
 have lim:s.heap.NoLimit:=e0.mod.nolimit.keeps fun b o e=>(e0.bs b o e).1
 have hkind:∀y∈ps.zip us,scope.names.lookup y.1=some .local ∨ (scope.names.lookup y.1=some .cell/\((P8 (s.heap.objs.size+1) scope.names []).lookup y.1).isSome=true):=fun ⟨n,v⟩ hy=>by
  rcases S.par n (jw hy).1 with q|q
  ·exact .inl q
  ·exact .inr ⟨q,so _ _ _ (.inl q)⟩
 refine IZ hr.depth (KX _ _ lk) rfl S.co S.gen rfl (W.codeRec_of KX hcd) (hb _ _ _ _ ?_)
 refine Aj S.kind hkind fun env he s1 x=>?_
 subst he
 refine⟨lim.keeps x.toInCall.keep,codeAny_func ?_⟩
 obtain⟨t,ht,hq⟩:=hbody A outer s H vs Q E hsp
 have I:C0 (dU CX P w K mg base N qual scope f cdv A outer s H E) [] (start N vs) H s1:=rK S hr.hd e0 hl r x
 refine B5 (ht [] s1 (start N vs) H _ I hq) (fun fl s' hs=>?_) fun e s' hs=>hs
 have fin:∀{σ':St}{H':Hp}{v:V}{u:b9},C0 (dU CX P w K mg base N qual scope f cdv A outer s H E) [] σ' H' s'->G9 v u->Q v H'->CE outer P w H s Q u s' :=
  fun {σ' H' v u} J rv q=>⟨v,H',J.os,J.bare,J.base,J.hok,rv,q⟩
 cases fl with
 | ret u =>
  obtain⟨v,σ',H',J,rv,q⟩:=hs
  exact fin J rv q
 | next =>
  obtain⟨σ',H',J,q⟩:=hs
  exact fin (v:=V.non) (u:=A3) J rfl q
 | brk =>
  obtain⟨_,_,_,q⟩:=hs
  exact D6 q
 | cont =>
  obtain⟨_,_,_,q⟩:=hs
  exact D6 q
theorem Y3.ok0 {P:i8}{w:t9}{K:j7}{mg:Str->Option b9}{base:Heap}{x qual:Str}{st:Stmt}{f:Addr}{fd:A9}{N ps:List Str}{sp:Sp} (F:Y3 K x qual st f fd) (S:B1 N ps (r6 st)) (len:∀vs H Q E,sp vs H Q E->vs.length=ps.length)
  (hbody:∀(cdv:b9) (A:y7) (outer:List Env) (s:f6) (H:Hp) (vs:List V) (Q:VK) (E:XK),sp vs H Q E ->
   ∃t,qu (dU cQ P w K mg base N qual (r6 st) f cdv A outer s H E).nox (V1 st) t/\t { nx:=fun _ H'=>Q .non H',rt:=Q } (start N vs) H):G7 P w K mg base cQ 0 f fd ps sp:=by
 obtain⟨oc,od,kV,doc,pm,an,cdv,ct,osl,rfl,lk,hcd⟩:=F.ex
 refine Ma lk hcd S len fun A outer s H vs Q E hsp=>?_
 obtain⟨t,h,q⟩:=hbody cdv A outer s H vs Q E hsp
 exact⟨t,h.nox,q⟩
section
variable {X:Cx}
end
end L2
namespace G
open PySem PySem.Spec PyProof.Rows L2 Mt
def top (i:Nat):Stmt:=PySem.Challenge.pw_growurns_k93_a_desk.main.body.getD i (.Pass ⟨0,0,0,0⟩)
structure Bt (mg:Str->Option b9):Prop where
 isinstance:mg "isinstance"=none
 bool:mg "bool"=none
 int:mg "int"=none
 tuple:mg "tuple"=none
 list:mg "list"=none
 all:mg "all"=none
 sum:mg "sum"=none
 len:mg "len"=none
 range:mg "range"=none
 max:mg "max"=none
 min:mg "min"=none
 abs:mg "abs"=none
 zip:mg "zip"=none
noncomputable def af (lo hi:Int):C1->Bool
 | .int i=>decide (lo<=i)&&decide (i<=hi)
 | _=>false
section
variable {P:i8}{w:t9}{K:j7}{mg:Str->Option b9}{base:Heap}{f:Addr}{fd:A9}
noncomputable def numD:C1->Bool
 | .int _=>true
 | _=>false
def gL:Sp:=fun vs H Q _=>∃(v:V) (st:Addr) (d:C1),vs=[v]/\Dt st H d v/\Q (.bl (numD d)) H
abbrev iP:Stmt:=top 13
theorem sU:B1 ["thing"] ["thing"] (r6 iP):=⟨rfl,rfl,rfl,by decide+kernel,rfl,by decide+kernel,by decide+kernel⟩
theorem tT (F:Y3 K "is_number" "is_number" iP f fd) (B:Bt mg):G7 P w K mg base cQ 0 f fd ["thing"] gL:=by
 refine F.ok0 sU (fun vs H Q E h=>?_) (fun cdv A outer s H vs Q E h=>?_)
 ·obtain⟨v,st,d,rfl,_⟩:=h
  rfl
 obtain⟨v,st,d,rfl,hd,q⟩:=h
 refine⟨_,n6 (A5 (lY (A1 (df tY) rfl B.isinstance E3 (b8 (pv 0) (b8 (gU rfl B.int jK) f7)))
  (lX (Lg (A1 (df Fh) rfl B.isinstance E3 (b8 (pv 0) (b8 (gU rfl B.bool boot_bool) f7))))))),?_⟩
 refine⟨_,rfl,v,st,d,rfl,hd,_,rfl,?_⟩
 cases d with
 | bool b=>exact⟨_,rfl,v,st,_,rfl,hd,_,rfl,q⟩
 | int i=>exact⟨_,rfl,v,st,_,rfl,hd,_,rfl,q⟩
 | none=>exact q
 | str x=>exact q
 | list ds=>exact q
 | tuple ds=>exact q
 | dict kvs=>exact q
def cX:Sp:=fun vs H Q _=>∃(v:V) (st:Addr) (d:C1) (lo hi:Int),vs=[v,.int lo,.int hi]/\Dt st H d v/\Q (.bl (af lo hi d)) H
abbrev jT:Stmt:=top 14
theorem vk:B1 ["thing","low","high"] ["thing","low","high"] (r6 jT):=⟨rfl,rfl,rfl,by decide+kernel,rfl,by decide+kernel,by decide+kernel⟩
theorem vA (F:Y3 K "is_whole" "is_whole" jT f fd) (c1:S6 P w K mg base 0 "is_number" ["thing"] gL):G7 P w K mg base cQ 1 f fd ["thing","low","high"] cX:=by
 refine F.ok vk (fun vs H Q E h=>?_) (fun cdv A outer s H vs Q E hr h=>?_)
 ·obtain⟨v,st,d,lo,hi,rfl,_⟩:=h
  rfl
 obtain⟨v,st,d,lo,hi,rfl,hd,q⟩:=h
 refine⟨_,n6 (A5 (lY (B0 c1 hr rfl (b8 (pv 0) f7)) (lX (pb rA rA (pv 1) (pv 0) (pv 2))))),?_⟩
 refine⟨_,rfl,v,st,d,rfl,hd,_,rfl,?_⟩
 cases d with
 | int i =>
  refine O2 ?_
  unfold Dt at hd
  subst hd
  refine⟨_,rfl,_,rfl,lo,i,rfl,rfl,_,rfl,?_⟩
  have q':Q (.bl (decide (lo<=i)&&decide (i<=hi))) H:=q
  by_cases h1:lo<=i
  ·rw[decide_eq_true h1,Q0] at q'
   rw[decide_eq_true h1]
   exact O2 ⟨_,rfl,i,hi,rfl,rfl,q'⟩
  ·rw[decide_eq_false h1,V8] at q'
   rw[decide_eq_false h1]
   exact N3 q'
 | bool b=>exact q
 | none=>exact q
 | str x=>exact q
 | list ds=>exact q
 | tuple ds=>exact q
 | dict kvs=>exact q
noncomputable def S2 (lo hi:Int):C1->Bool
 | .tuple ds=>ds.all (af lo hi)
 | _=>false
def cO:Sp:=fun vs H Q _=>∃(v:V) (st:Addr) (d:C1) (lo hi:Int),vs=[v,.int lo,.int hi]/\Dt st H d v/\(∀ds,d=.tuple ds->ds.length<=1000)/\∀H',n8 H H'->Q (.bl (S2 lo hi d)) H'
abbrev gQ:Stmt:=top 15
theorem qG:B1 ["thing","low","high"] ["thing","low","high"] (r6 gQ):=⟨rfl,rfl,rfl,by decide+kernel,rfl,by decide+kernel,by decide+kernel⟩
theorem qH (F:Y3 K "are_wholes" "are_wholes" gQ f fd) (B:Bt mg) (c1:S6 P w K mg base 1 "is_whole" ["thing","low","high"] cX):G7 P w K mg base cQ 2 f fd ["thing","low","high"] cO:=by
 refine F.ok qG (fun vs H Q E h=>?_) (fun cdv A outer s H vs Q E hr h=>?_)
 ·obtain⟨v,st,d,lo,hi,rfl,_⟩:=h
  rfl
 obtain⟨v,st,d,lo,hi,rfl,hd,hl,q⟩:=h
 refine⟨_,n6 (A5 (lY (A1 (df tX) rfl B.isinstance E3 (b8 (pv 0) (b8 (gU rfl B.tuple R3) f7)))
  (lX (A1 (hZ rfl) rfl B.all boot_all (b8 (O1 (N:=["part","low","high"]) (ix:=[none,some 1,some 2]) (ifs:=[]) (tc:=T5) rfl (jV (pv 0))
   (fun s H ex=>bz (i:=0) (by decide+kernel) rfl (A4 rfl) (.inr rfl)) (fun s H ex=>L8) (fun s H ex=>B0 c1 hr rfl (b8 (pv 0) (b8 (pv 1) (b8 (pv 2) f7)))) rfl (by decide+kernel) (by rfl) (by rfl) (fun _=>rfl)) f7))))),?_⟩
 refine⟨_,rfl,v,st,d,rfl,hd,_,rfl,?_⟩
 cases d with
 | tuple ds =>
  refine O2 ?_
  obtain⟨a,xs,rfl,ne,ha,hds⟩:∃a xs,v=.ref a/\a≠st/\H a=some (.tup xs)/\T6 st H ds xs:=by unfold Dt at hd;exact hd
  have hlen:=hds.len
  have hl':=hl ds rfl
  refine⟨_,rfl,a,rfl,⟨xs,.of ha⟩,ic (K:=K) (a:=a) (xs:=xs) (sz (by lia)) (fun i ys H2=>n8 H H2/\i<=ds.length/\ys=(ds.take i).map fun d=>V.bl (af lo hi d)) ⟨n8.refl H,A7 _,rfl⟩ (fun i ys H2 h=>?_) (fun i ys H2 _ h=>.of (h.1 _ _ ha)) rfl (fun i ys H2 x hx h=>?_) (fun ys H2 h=>?_)⟩
  ·obtain⟨_,hi,rfl⟩:=h
   rw[d8,F9];lia
  ·obtain⟨hS,hil,rfl⟩:=h
   obtain⟨d,hd',dt⟩:=hds.get hx
   refine⟨_,rfl,_,rfl,_,rfl,x,st,d,lo,hi,rfl,dt.kp (hS.kp st),hS,(List.getElem?_eq_some_iff.mp hd').1,?_⟩
   rw[D1,hd',w5];rfl
  ·obtain⟨hS,hil,rfl⟩:=h
   intro p hp
   refine⟨p,_,rfl,.inl (.of j0),?_,?_⟩
   ·rw[U9];exact List.all_eq_true.mpr fun _ _=>rfl
   ·have e:(((ds.take xs.length).map fun d=>V.bl (af lo hi d)).all xl)=S2 lo hi (.tuple ds):=by
     rw[<- hlen,N9,U9];rfl
    rw[e]
    exact q _ (hS.trans (n8.new hp))
 | _=>exact q H (n8.refl H)
end
structure Ct (mg:Str->Option b9):Prop where
 kinds:∃t,mg "MOST_KINDS"=some (.int 4 t)
 balls:∃t,mg "MOST_BALLS"=some (.int 20 t)
 puts:∃t,mg "MOST_PUT_IN"=some (.int 5 t)
variable {H:Hp}{v:V}
theorem _root_.L2.Dt.untup {st:Addr}{ds:List C1}(h:Dt st H (.tuple ds) v):∃a xs,v=.ref a/\a≠st/\H a=some (.tup xs)/\T6 st H ds xs:=by unfold Dt at h;exact h
theorem _root_.L2.Dt.unint {st:Addr}{i:Int}(h:Dt st H (.int i) v):v=.int i:=by unfold Dt at h;exact h
theorem jM {lo hi:Int}{d:C1} (h:af lo hi d=true):∃i,d=.int i/\lo<=i/\i<=hi:=by
 cases d with
 | int i =>
  have h':(decide (lo<=i)&&decide (i<=hi))=true:=h
  rw[w6] at h'
  exact⟨i,rfl,of_decide_eq_true h'.1,of_decide_eq_true h'.2⟩
 | _=>cases (show false=true from h)
theorem wk {lo hi:Int}:∀{ds:List C1},ds.all (af lo hi)=true->∃ns:List Int,ds=ns.map .int/\∀x∈ns,lo<=x/\x<=hi
 | [],_=>⟨[],rfl,by simp⟩
 | d::ds,h=>by
  rw[lF,w6] at h
  obtain⟨i,e,h1,h2⟩:=jM h.1
  obtain⟨ns,e2,h3⟩:=wk h.2
  subst e e2
  exact⟨i::ns,rfl,fun x hx=>by
   rcases List.mem_cons.mp hx with z|z
   ·subst z;exact⟨h1,h2⟩
   ·exact h3 x z⟩
theorem dN {lo hi:Int}{d:C1} (h:S2 lo hi d=true):∃ns:List Int,d=DI ns/\∀x∈ns,lo<=x/\x<=hi:=by
 cases d with
 | tuple ds =>
  obtain⟨ns,e,h2⟩:=wk (ds:=ds) h
  subst e
  exact⟨ns,rfl,h2⟩
 | _=>cases (show false=true from h)
noncomputable def LU:C1->Int
 | .int i=>i
 | _=>0
noncomputable def bI:C1->Nat
 | .tuple ds=>ds.length
 | _=>0
noncomputable def NK:C1->Int
 | .tuple ds=>(ds.map LU).sum
 | _=>0
theorem sD (ns:List Int):NK (DI ns)=ns.sum:=by
 show ((ns.map N1).map LU).sum=ns.sum
 rw[cJ]
 have e:(LU ∘ N1)=id:=by funext i;rfl
 rw[e,List.map_id]
theorem V0 (ns:List Int):bI (DI ns)=ns.length:=by show (ns.map N1).length=_;rw[d8]
noncomputable def Q5 (m:Int) (d:C1):Bool:=S2 0 m d&&((decide ((1:Int)<=bI d)&&decide ((bI d:Int)<=4))&&decide ((0:Int)<NK d))
noncomputable def K8 (k:Int) (d:C1):Bool:=match d with
 | .tuple ds=>decide ((ds.length:Int)=k)&&ds.all (fun r=>S2 0 5 r&&decide ((bI r:Int)=k))
 | _=>false
def cq (d:C1):Prop:=∀ds,d=.tuple ds->ds.length<=1000
section
variable {P:i8}{w:t9}{K:j7}{mg:Str->Option b9}{base:Heap}{f:Addr}{fd:A9}
def dq:Sp:=fun vs H Q _=>∃(v:V) (st:Addr) (d:C1) (m:Int),vs=[v,.int m]/\Dt st H d v/\cq d/\∀H',n8 H H'->Q (.bl (Q5 m d)) H'
abbrev eK:Stmt:=top 27
theorem nu:B1 ["thing","most"] ["thing","most"] (r6 eK):=⟨rfl,rfl,rfl,by decide+kernel,rfl,by decide+kernel,by decide+kernel⟩
theorem nv (F:Y3 K "is_urn_up_to" "is_urn_up_to" eK f fd) (B:Bt mg) (C:Ct mg) (c1:S6 P w K mg base 2 "are_wholes" ["thing","low","high"] cO):G7 P w K mg base cQ 3 f fd ["thing","most"] dq:=by
 refine F.ok nu (fun vs H Q E h=>?_) (fun cdv A outer s H vs Q E hr h=>?_)
 ·obtain⟨v,st,d,m,rfl,_⟩:=h
  rfl
 obtain⟨v,st,d,m,rfl,hd,hl,q⟩:=h
 obtain⟨tk,hk⟩:=C.kinds
 refine⟨_,j5 (K4 (cB (az (B0 c1 hr rfl (b8 (pv 0) (b8 t8 (b8 (pv 1) f7)))))) (n6 (A5 iV)) D4)
  (n6 (A5 (lY (pb rA rA t8 (A1 E2 rfl B.len C9 (b8 (pv 0) f7)) (O6 (v:=.int 4) rfl hk ⟨tk,rfl⟩))
   (lX (fj zG (A1 (bS rfl) rfl B.sum Ap (b8 (pv 0) f7)) t8 (G0 _)))))),?_⟩
 refine⟨_,rfl,_,rfl,v,st,d,0,m,rfl,hd,hl,fun H1 g1=>⟨_,rfl,?_⟩⟩
 have q1:=q H1 g1
 unfold Q5 at q1
 cases hw:S2 0 m d with
 | false =>
  rw[hw,V8] at q1
  exact O2 q1
 | true =>
  rw[hw,Q0] at q1
  refine N3 ?_
  obtain⟨ns,e,hns⟩:=dN hw
  subst e
  obtain⟨a,e,ne,ha⟩:=hd.di
  subst e
  rw[V0,sD] at q1
  have ha1:=g1 _ _ ha
  refine⟨_,rfl,a,_,rfl,.inr (.of ha1),_,_,rfl,rfl,_,rfl,?_⟩
  rw[d8]
  by_cases h1:(1:Int)<=(ns.length:Int)
  ·rw[decide_eq_true h1,Q0] at q1
   rw[decide_eq_true h1]
   refine O2 ⟨_,_,rfl,rfl,_,rfl,?_⟩
   by_cases h2:(ns.length:Int)<=4
   ·rw[decide_eq_true h2,Q0] at q1
    rw[decide_eq_true h2]
    exact O2 ⟨_,rfl,a,ns,rfl,.inr (.of ha1),_,_,rfl,rfl,q1⟩
   ·rw[decide_eq_false h2,V8] at q1
    rw[decide_eq_false h2]
    exact N3 q1
  ·rw[decide_eq_false h1,V8,V8] at q1
   rw[decide_eq_false h1]
   exact N3 ⟨_,rfl,N3 q1⟩
def fX:Sp:=fun vs H Q _=>∃(v:V) (st:Addr) (d:C1),vs=[v]/\Dt st H d v/\cq d/\∀H',n8 H H'->Q (.bl (Q5 20 d)) H'
abbrev oM:Stmt:=top 26
theorem AM:B1 ["thing"] ["thing"] (r6 oM):=⟨rfl,rfl,rfl,by decide+kernel,rfl,by decide+kernel,by decide+kernel⟩
theorem AY (F:Y3 K "is_urn" "is_urn" oM f fd) (C:Ct mg) (c1:S6 P w K mg base 3 "is_urn_up_to" ["thing","most"] dq):G7 P w K mg base cQ 4 f fd ["thing"] fX:=by
 refine F.ok AM (fun vs H Q E h=>?_) (fun cdv A outer s H vs Q E hr h=>?_)
 ·obtain⟨v,st,d,rfl,_⟩:=h
  rfl
 obtain⟨v,st,d,rfl,hd,hl,q⟩:=h
 obtain⟨tk,hk⟩:=C.balls
 refine⟨_,n6 (A5 (B0 c1 hr rfl (b8 (pv 0) (b8 (O6 (v:=.int 20) rfl hk ⟨tk,rfl⟩) f7)))),?_⟩
 exact⟨_,rfl,v,st,d,20,rfl,hd,hl,q⟩
def ay (c:Nat->Addr):Sp:=fun vs H Q E=>∃(v:V) (st:Addr) (d:C1) (lo hi:Int),vs=[v,.int lo,.int hi]/\Dt st H d v/\Sm lo/\Sm hi/\(af lo hi d=true->Q .non H)/\(af lo hi d=false->E (.ref (c 5)) none H)
abbrev fJ:Stmt:=top 16
theorem oI:B1 ["thing","low","high"] ["thing","low","high"] (r6 fJ):=⟨rfl,rfl,rfl,by decide+kernel,rfl,by decide+kernel,by decide+kernel⟩
theorem pf {c:Nat->Addr}{B:Addr} (F:Y3 K "need_number" "need_number" fJ f fd) (R:jA K mg c B) (c1:S6 P w K mg base 1 "is_whole" ["thing","low","high"] cX):G7 P w K mg base (cj P w) 2 f fd ["thing","low","high"] (ay c):=by
 refine F.okX oI (fun vs H Q E h=>?_) (fun cdv A outer s H vs Q E hr h=>?_)
 ·obtain⟨v,st,d,lo,hi,rfl,_⟩:=h
  rfl
 obtain⟨v,st,d,lo,hi,rfl,hd,slo,shi,q1,q2⟩:=h
 refine⟨_,n6 (K4 (cB (az (B0 c1 hr rfl (b8 (pv 0) (b8 (pv 1) (b8 (pv 2) f7)))))) (n6 (U0 R.e5 (R.xc 5 (by decide)) (tN (lW (tJ (pv 1) (lW (tJ (pv 2) xV))))) (fun σ H Q Q' m q=>?_))) D4),?_⟩
 ·obtain⟨v1,z1,i1,z2,z3,z4,v2,z5,i2,z6,z7,z8,z9⟩:=q
  exact⟨v1,z1,i1,z2,z3,z4,v2,z5,i2,z6,z7,z8,fun z=>m _ _ (z9 z)⟩
 refine⟨_,rfl,_,rfl,_,rfl,v,st,d,lo,hi,rfl,hd,_,rfl,?_⟩
 cases hw:af lo hi d with
 | true=>exact N3 (q1 hw)
 | false=>exact O2 ⟨_,rfl,lo,rfl,slo.1,slo.2,_,rfl,hi,rfl,shi.1,shi.2,fun z=>q2 hw⟩
def gK (c:Nat->Addr):Sp:=fun vs H Q E=>∃(u v:V) (st:Addr) (dk d:C1),vs=[u,v]/\Dt st H dk u/\(af 1 4 dk=false->E (.ref (c 5)) none H) /\
 (∀k,dk=.int k->1<=k->k<=4->Dt st H d v/\cq d/\(∀ds,d=.tuple ds->∀r∈ds,cq r)/\∀H',n8 H H'->Q (.bl (K8 k d)) H')
abbrev lR:Stmt:=top 28
theorem xH:B1 ["kinds","thing"] ["kinds","thing"] (r6 lR):=⟨rfl,rfl,rfl,by decide+kernel,rfl,by decide+kernel,by decide+kernel⟩
theorem sm1:Sm 1:=by unfold Sm;decide+kernel
theorem sm4:Sm 4:=by unfold Sm;decide+kernel
theorem yd {c:Nat->Addr} (F:Y3 K "is_rule" "is_rule" lR f fd) (B:Bt mg) (C:Ct mg) (c1:S6 P w K mg base 2 "are_wholes" ["thing","low","high"] cO) (c2:O9 P w K mg base 2 "need_number" ["thing","low","high"] (ay c)):G7 P w K mg base (cj P w) 3 f fd ["kinds","thing"] (gK c):=by
 refine F.okX xH (fun vs H Q E h=>?_) (fun cdv A outer s H vs Q E hr h=>?_)
 ·obtain⟨u,v,st,dk,d,rfl,_⟩:=h
  rfl
 obtain⟨u,v,st,dk,d,rfl,hu,qE,qQ⟩:=h
 obtain⟨tk,hk⟩:=C.kinds
 obtain⟨tp,hp⟩:=C.puts
 refine⟨_,j5 (X9 (G1 c2 hr rfl K0 (b8 (pv 0) (b8 t8 (b8 (O6 (v:=.int 4) rfl hk ⟨tk,rfl⟩) f7)))))
  (qu.nox (j5 (K4 (PW.pt (rn (cB (az (A1 (df tX) rfl B.isinstance E3 (b8 (pv 1) (b8 (gU rfl B.tuple R3) f7)))))
   (lU (E4 iW (A1 E2 rfl B.len C9 (b8 (pv 1) f7)) (pv 0) (G0 _))))) (n6 (A5 iV)) D4)
  (n6 (A5 (A1 (hZ rfl) rfl B.all boot_all (b8 (O1 (N:=["row","kinds"]) (ix:=[none,some 0]) (ifs:=[]) (tc:=T5) rfl (jV (pv 1))
   (fun s H ex=>bz (i:=0) (by decide+kernel) rfl (A4 rfl) (.inr rfl)) (fun s H ex=>L8)
   (fun s H ex=>lY (B0 c1 hr rfl (b8 (pv 0) (b8 t8 (b8 (O6 (v:=.int 5) rfl hp ⟨tp,rfl⟩) f7)))) (lX (fj Z0 (A1 (lenK (K:=K) rfl) rfl B.len C9 (b8 (pv 0) f7)) (pv 1) (G0 _)))) rfl (by decide+kernel) (by rfl) (by rfl) (fun _=>rfl)) f7)))))),?_⟩
 refine⟨_,rfl,u,st,dk,1,4,rfl,hu,sm1,sm4,fun hw=>?_,qE⟩
 obtain⟨k,e,k1,k4⟩:=jM hw
 subst e
 obtain rfl:=hu.unint
 obtain⟨hd,hl,hl2,q⟩:=qQ k rfl k1 k4
 refine⟨_,rfl,v,st,d,rfl,hd,_,rfl,?_⟩
 cases d with
 | tuple ds =>
  obtain⟨a,xs,e,ne,ha,hds⟩:=hd.untup
  subst e
  have hlen:=hds.len
  have hl':=hl ds rfl
  refine N3 ⟨_,rfl,a,xs,rfl,.inr (.of ha),_,rfl,rfl,_,rfl,?_⟩
  have q0:=fun H' g=>q H' g
  unfold K8 at q0
  by_cases hk':(ds.length:Int)=k
  ·have e1:V.int (xs.length:Int)=V.int k:=by rw[<- hlen,hk']
   rw[decide_eq_true e1]
   refine N3 ?_
   have q1:∀H',n8 H H'->Q (.bl (ds.all (fun r=>S2 0 5 r&&decide ((bI r:Int)=k)))) H':=fun H' g=>by
    have:=q0 H' g
    simp only[decide_eq_true hk',Q0] at this
    exact this
   refine⟨_,rfl,a,rfl,⟨xs,.of ha⟩,ic (K:=K) (a:=a) (xs:=xs) (sz (by lia)) (fun i ys H2=>n8 H H2/\i<=ds.length/\ys=(ds.take i).map fun r=>V.bl (S2 0 5 r&&decide ((bI r:Int)=k))) ⟨n8.refl H,A7 _,rfl⟩ (fun i ys H2 h=>?_) (fun i ys H2 _ h=>.of (h.1 _ _ ha)) rfl (fun i ys H2 x hx h=>?_) (fun ys H2 h=>?_)⟩
   ·obtain⟨_,hil,rfl⟩:=h
    rw[d8,F9];lia
   ·obtain⟨hS,hil,rfl⟩:=h
    obtain⟨d,hd',dt⟩:=hds.get hx
    have dt2:=dt.kp (hS.kp st)
    refine⟨_,rfl,x,st,d,0,5,rfl,dt2,hl2 ds rfl d (y8 hd'),fun H3 g3=>⟨_,rfl,?_⟩⟩
    have fin:∀b:Bool,b=(S2 0 5 d&&decide ((bI d:Int)=k))->n8 H H3/\i+1<=ds.length/\((ds.take i).map fun r=>V.bl (S2 0 5 r&&decide ((bI r:Int)=k)))++[V.bl b]=(ds.take (i+1)).map fun r=>V.bl (S2 0 5 r&&decide ((bI r:Int)=k)):=fun b e=>by
     subst e
     refine⟨hS.trans g3,(List.getElem?_eq_some_iff.mp hd').1,?_⟩
     rw[D1,hd',w5];rfl
    cases hw:S2 0 5 d with
    | false=>exact N3 (fin false (by rw[hw];rfl))
    | true =>
     obtain⟨ns,e,_⟩:=dN hw
     subst e
     obtain⟨b,e,_,hb⟩:=dt2.di
     subst e
     refine O2 ⟨_,rfl,b,_,rfl,.inr (.of (g3 _ _ hb)),_,rfl,rfl,?_⟩
     refine fin _ ?_
     rw[hw,Q0,V0,d8]
     rw[decide_eq_decide]
     constructor
     ·intro e;injection e
     ·intro e;rw[e]
   ·obtain⟨hS,hil,rfl⟩:=h
    intro p hp
    refine⟨p,_,rfl,.inl (.of j0),?_,?_⟩
    ·rw[U9];exact List.all_eq_true.mpr fun _ _=>rfl
    ·have e:(((ds.take xs.length).map fun r=>V.bl (S2 0 5 r&&decide ((bI r:Int)=k))).all xl)=ds.all (fun r=>S2 0 5 r&&decide ((bI r:Int)=k)):=by
      rw[<- hlen,N9,U9];rfl
     rw[e]
     exact q1 _ (hS.trans (n8.new hp))
  ·have e1:¬ V.int (xs.length:Int)=V.int k:=fun e=>hk' (by rw[hlen];injection e)
   rw[decide_eq_false e1]
   refine O2 ?_
   have:=q0 H (n8.refl H)
   simp only[decide_eq_false hk',V8] at this
   exact this
 | _=>exact O2 (O2 (q H (n8.refl H)))
end
theorem II:Z1 "ValueError"=some (.type "ValueError"):=by decide+kernel
noncomputable def BF (i:Nat):List Bool:=[decide (i=0),decide (i=1),decide (i=2),decide (i=3),decide (i=4),decide (i=5),decide (i=6),decide (i=7),decide (i=8),decide (i=9)]
theorem uh (i:Nat):(BF i).length=10:=rfl
theorem Mp (i:Nat):(BF i).length<=i7:=by rw[uh];decide
theorem Mo:∀i:Nat,i<10->((BF i).map (fun b=>if b then (1:Int) else 0)).sum=1:=by decide
theorem Jy:∀i:Nat,i<10->(BF i)[i]?=some true/\∀m,m<i->(BF i)[m]?=some false:=by decide
section
variable {P:i8}{w:t9}{K:j7}{mg:Str->Option b9}{base:Heap}{f:Addr}{fd:A9}
noncomputable def Oi:Option Nat->V
 | none=>.non
 | some i=>.int i
noncomputable def Out (c:Nat->Addr) (H:Hp) (Q:VK) (E:XK):Option Nat->Prop
 | none=>∀v H1,n8 H H1->Q v H1
 | some i=>∀H1,n8 H H1->E (.ref (c i)) none H1
def eG (P:i8) (w:t9) (K:j7) (mg:Str->Option b9) (base:Heap) (k:Nat) (c:Nat->Addr):Sp:=fun vs H Q _=>∃(fa:Addr) (spL:Sp) (fo:Obj) (fd:A9) (o:Option Nat),vs=[.ref fa]/\H fa=some (KN fo)/\fo.data=.func fd /\
 fG fd ⟨[],[]⟩=pure []/\G7 P w K mg base (cj P w) k fa fd [] spL/\(∀i,o=some i->i<10)/\(∀Q' E',Out c H Q' E' o->spL [] H Q' E')/\∀H',n8 H H'->Q (Oi o) H'
abbrev lP:Stmt:=top 72
theorem cA:B1 ["_law_call","_law_error","e","_law_sorts"] ["_law_call"] (r6 lP):=⟨rfl,rfl,rfl,by decide+kernel,rfl,by decide+kernel,by decide+kernel⟩
theorem yb {c:Nat->Addr}{Bs:Addr}{k:Nat} (FF:Y3 K "_law_refused" "_law_refused" lP f fd) (B:Bt mg) (R:jA K mg c Bs) (hVE:mg "ValueError"=none):G7 P w K mg base cQ (k+1) f fd ["_law_call"] (eG P w K mg base k c):=by
 refine FF.ok cA (fun vs H Q E h=>?_) (fun cdv A outer s H vs Q E hr h=>?_)
 ·obtain⟨fa,spL,fo,fd,o,rfl,_⟩:=h
  rfl
 obtain⟨fa,spL,fo,fd',o,rfl,kn,hfd,bnd,FL,ho,hsp,q⟩:=h
 refine⟨_,j5 (F7 (i:=1) cA.nd rfl (A4 rfl) tM)
  (j5 (Hw (k:=k) (iC:=0) (iE:=2) (iR:=1) rfl rfl hr cA.nd rfl (A4 rfl) rfl rfl rfl rfl (by decide) rfl R.eb R.bb)
  (j5 (K4 (xU (Ep (pv 1))) (n6 (A5 tM)) D4)
  (j5 (F7 (i:=3) cA.nd rfl (A4 rfl) (ag (b8 (A1 aB rfl B.isinstance E3 (b8 (pv 1) (b8 (O6 (v:=.ref (c 0)) rfl R.e0 rfl) f7)))
   (b8 (A1 aB rfl B.isinstance E3 (b8 (pv 1) (b8 (O6 (v:=.ref (c 1)) rfl R.e1 rfl) f7))) (b8 (A1 aB rfl B.isinstance E3 (b8 (pv 1) (b8 (O6 (v:=.ref (c 2)) rfl R.e2 rfl) f7))) f7)))))
  (j5 (F7 (i:=3) cA.nd rfl (A4 rfl) (J6 xZ (pv 3) (ag (b8 (A1 aB rfl B.isinstance E3 (b8 (pv 1) (b8 (O6 (v:=.ref (c 3)) rfl R.e3 rfl) f7)))
   (b8 (A1 aB rfl B.isinstance E3 (b8 (pv 1) (b8 (O6 (v:=.ref (c 4)) rfl R.e4 rfl) f7))) (b8 (A1 aB rfl B.isinstance E3 (b8 (pv 1) (b8 (O6 (v:=.ref (c 5)) rfl R.e5 rfl) f7))) f7))))))
  (j5 (F7 (i:=3) cA.nd rfl (A4 rfl) (J6 xZ (pv 3) (ag (b8 (A1 aB rfl B.isinstance E3 (b8 (pv 1) (b8 (O6 (v:=.ref (c 6)) rfl R.e6 rfl) f7)))
   (b8 (A1 aB rfl B.isinstance E3 (b8 (pv 1) (b8 (O6 (v:=.ref (c 7)) rfl R.e7 rfl) f7))) (b8 (A1 aB rfl B.isinstance E3 (b8 (pv 1) (b8 (O6 (v:=.ref (c 8)) rfl R.e8 rfl) f7))) f7))))))
  (j5 (X9 (cZ gB su sr rD (pv 3) (b8 (A1 aB rfl B.isinstance E3 (b8 (pv 1) (b8 (O6 (v:=.ref (c 9)) rfl R.e9 rfl) f7))) f7)))
  (j5 (K4 (PW.pt (rn (cB (az (A1 aB rfl B.isinstance E3 (b8 (pv 1) (b8 (gU rfl hVE II) f7)))))
   (lU (E4 iW (A1 (bS rfl) rfl B.sum Ap (b8 (O1 (N:=["_law_one"]) (ix:=[none]) (ifs:=[]) (tc:=T5) rfl (gR (pv 3))
    (fun s H ex=>bz (i:=0) (by decide+kernel) rfl (A4 rfl) (.inr rfl)) (fun s H ex=>L8) (fun s H ex=>D9 gr rfl B.int jK (b8 (pv 0) f7)) rfl (by decide+kernel) (by rfl) (by rfl) (fun _=>rfl)) f7)) t8 (G0 _)))))
   (n6 (A5 (Oh JY t8))) D4)
  (n6 (A5 (cZ gB PySem.F.slot_list_index PySem.F.type_list_index Bf (pv 3) (b8 iV f7))))))))))),?_⟩
 refine⟨fa,spL,rfl,⟨fo,fd',kn,hfd,bnd,FL⟩,hsp _ _ ?_⟩
 cases o with
 | none=>exact fun v H1 g1=>⟨_,rfl,_,rfl,O2 (q H1 g1)⟩
 | some i =>
  have hi:=ho i rfl
  intro H1 g1
  refine⟨c i,rfl,R.sub i hi,fun a oe x na=>?_⟩
  have g2:n8 H (A6 H1 a (KN oe)):=g1.trans (n8.new na)
  have ha2:A6 H1 a (KN oe) a=some (KN oe):=j0
  generalize A6 H1 a (KN oe)=H2 at g2 ha2
  refine⟨_,rfl,_,rfl,N3 ?_⟩
  refine⟨_,rfl,a,oe,c i,_,_,_,rfl,ha2,x,R.xi i hi,rfl,R.one i 0 hi (by decide),_,rfl,a,oe,c i,_,_,_,rfl,ha2,x,R.xi i hi,rfl,R.one i 1 hi (by decide),_,rfl,a,oe,c i,_,_,_,rfl,ha2,x,R.xi i hi,rfl,R.one i 2 hi (by decide),(by show 3<=i7;decide),fun p hp=>?_⟩
  have ap:a≠p:=u9 ha2 hp
  have g3:n8 H (A6 H2 p (.lst [.bl (decide (i=0)),.bl (decide (i=1)),.bl (decide (i=2))])):=g2.trans (n8.new hp)
  have ha3:A6 H2 p (.lst [.bl (decide (i=0)),.bl (decide (i=1)),.bl (decide (i=2))]) a=some (KN oe):=by rw[v9 ap];exact ha2
  have hp3:A6 H2 p (.lst [.bl (decide (i=0)),.bl (decide (i=1)),.bl (decide (i=2))]) p=some (.lst [.bl (decide (i=0)),.bl (decide (i=1)),.bl (decide (i=2))]):=j0
  generalize A6 H2 p (.lst [.bl (decide (i=0)),.bl (decide (i=1)),.bl (decide (i=2))])=H3 at g3 ha3 hp3
  refine⟨_,rfl,_,rfl,a,oe,c i,_,_,_,rfl,ha3,x,R.xi i hi,rfl,R.one i 3 hi (by decide),_,rfl,a,oe,c i,_,_,_,rfl,ha3,x,R.xi i hi,rfl,R.one i 4 hi (by decide),_,rfl,a,oe,c i,_,_,_,rfl,ha3,x,R.xi i hi,rfl,R.one i 5 hi (by decide),(by show 3<=i7;decide),fun p2 hp2=>⟨p,p2,_,_,rfl,rfl,(by rw[v9 (u9 hp3 hp2)];exact hp3),j0,(by show 3+3<=i7;decide),fun p4 hp4=>?_⟩⟩
  obtain⟨H5,g5,ha5,hp5,e5⟩:∃H5,n8 H H5/\H5 a=some (KN oe)/\H5 p4=some (.lst [.bl (decide (i=0)),.bl (decide (i=1)),.bl (decide (i=2)),.bl (decide (i=3)),.bl (decide (i=4)),.bl (decide (i=5))])/\H5=A6 (A6 H3 p2 (.lst [.bl (decide (i=3)),.bl (decide (i=4)),.bl (decide (i=5))])) p4 (.lst [.bl (decide (i=0)),.bl (decide (i=1)),.bl (decide (i=2)),.bl (decide (i=3)),.bl (decide (i=4)),.bl (decide (i=5))]):=
   ⟨_,(g3.trans (n8.new hp2)).trans (n8.new hp4),(by rw[v9 (u9 (by rw[v9 (u9 ha3 hp2)];exact ha3) hp4),v9 (u9 ha3 hp2)];exact ha3),j0,rfl⟩
  show kL _ _ _ _ (A6 (A6 H3 p2 (.lst [.bl (decide (i=3)),.bl (decide (i=4)),.bl (decide (i=5))])) p4 (.lst [.bl (decide (i=0)),.bl (decide (i=1)),.bl (decide (i=2)),.bl (decide (i=3)),.bl (decide (i=4)),.bl (decide (i=5))]))
  rw[<- e5]
  clear e5
  refine⟨_,rfl,_,rfl,a,oe,c i,_,_,_,rfl,ha5,x,R.xi i hi,rfl,R.one i 6 hi (by decide),_,rfl,a,oe,c i,_,_,_,rfl,ha5,x,R.xi i hi,rfl,R.one i 7 hi (by decide),_,rfl,a,oe,c i,_,_,_,rfl,ha5,x,R.xi i hi,rfl,R.one i 8 hi (by decide),(by show 3<=i7;decide),fun p5 hp5'=>⟨p4,p5,_,_,rfl,rfl,(by rw[v9 (u9 hp5 hp5')];exact hp5),j0,(by show 6+3<=i7;decide),fun p6 hp6=>?_⟩⟩
  have h6n:H p6=none:=(g5.trans (n8.new hp5')).free hp6
  obtain⟨H6,g6,ha6,hl6,e6⟩:∃H6,n8 H H6/\H6 a=some (KN oe)/\H6 p6=some (.lst [.bl (decide (i=0)),.bl (decide (i=1)),.bl (decide (i=2)),.bl (decide (i=3)),.bl (decide (i=4)),.bl (decide (i=5)),.bl (decide (i=6)),.bl (decide (i=7)),.bl (decide (i=8))])/\H6=A6 (A6 H5 p5 (.lst [.bl (decide (i=6)),.bl (decide (i=7)),.bl (decide (i=8))])) p6 (.lst [.bl (decide (i=0)),.bl (decide (i=1)),.bl (decide (i=2)),.bl (decide (i=3)),.bl (decide (i=4)),.bl (decide (i=5)),.bl (decide (i=6)),.bl (decide (i=7)),.bl (decide (i=8))]):=
   ⟨_,(g5.trans (n8.new hp5')).trans (n8.new hp6),(by rw[v9 (u9 (by rw[v9 (u9 ha5 hp5')];exact ha5) hp6),v9 (u9 ha5 hp5')];exact ha5),j0,rfl⟩
  show kL _ _ _ _ (A6 (A6 H5 p5 (.lst [.bl (decide (i=6)),.bl (decide (i=7)),.bl (decide (i=8))])) p6 (.lst [.bl (decide (i=0)),.bl (decide (i=1)),.bl (decide (i=2)),.bl (decide (i=3)),.bl (decide (i=4)),.bl (decide (i=5)),.bl (decide (i=6)),.bl (decide (i=7)),.bl (decide (i=8))]))
  rw[<- e6]
  clear e6
  refine⟨_,rfl,.inl ⟨rfl,_,.of hl6⟩,_,rfl,a,oe,c i,_,_,_,rfl,ha6,x,R.xi i hi,rfl,R.one i 9 hi (by decide),p6,_,_,rfl,rfl,hl6,(by show 9<i7;decide),?_⟩
  have hbs:([.bl (decide (i=0)),.bl (decide (i=1)),.bl (decide (i=2)),.bl (decide (i=3)),.bl (decide (i=4)),.bl (decide (i=5)),.bl (decide (i=6)),.bl (decide (i=7)),.bl (decide (i=8))]++[.bl (decide (i=9))]:List V)=(BF i).map V.bl:=rfl
  show kL _ _ _ _ (A6 H6 p6 (.lst ([.bl (decide (i=0)),.bl (decide (i=1)),.bl (decide (i=2)),.bl (decide (i=3)),.bl (decide (i=4)),.bl (decide (i=5)),.bl (decide (i=6)),.bl (decide (i=7)),.bl (decide (i=8))]++[.bl (decide (i=9))])))
  rw[hbs]
  have hap:a≠p6:=fun z=>by rw[z,hl6] at ha6;cases ha6
  obtain⟨H7,g7,ha7,hl7,e7⟩:∃H7,n8 H H7/\H7 a=some (KN oe)/\H7 p6=some (.lst ((BF i).map V.bl))/\H7=A6 H6 p6 (.lst ((BF i).map V.bl)):=
   ⟨_,fun b u hb=>by rw[v9 (fun z=>by rw[z,h6n] at hb;cases hb)];exact g6 b u hb,by rw[v9 hap];exact ha6,j0,rfl⟩
  rw[<- e7]
  clear e7
  refine⟨_,rfl,a,oe,c i,_,_,_,rfl,ha7,x,R.xi i hi,rfl,R.val i hi,_,rfl,N3 ?_⟩
  refine⟨_,rfl,p6,rfl,⟨_,.of hl7⟩,qe (K:=K) (a:=p6) (xs:=(BF i).map V.bl) (by rw[d8];exact Mp i) (fun j ys H2=>n8 H7 H2/\j<=10/\ys=((BF i).take j).map fun b=>V.int (if b then 1 else 0)) ⟨n8.refl _,A7 _,rfl⟩ (fun j ys H2 h=>?_) (fun j ys H2 _ h=>.of (h.1 _ _ hl7)) rfl (fun j ys H2 v hv h=>?_) (fun ys H2 h=>?_)⟩
  ·obtain⟨_,hj,rfl⟩:=h
   rw[d8,F9,uh];lia
  ·obtain⟨hS,hj,rfl⟩:=h
   rw[v8] at hv
   obtain⟨b,hb,ev⟩:=Option.map_eq_some_iff.mp hv
   subst ev
   refine⟨_,rfl,.inr ⟨b,rfl,hS,?_,?_⟩⟩
   ·have:=(List.getElem?_eq_some_iff.mp hb).1
    rw[uh] at this
    exact this
   ·rw[D1,hb,w5];rfl
  ·obtain⟨hS,hj,rfl⟩:=h
   intro pz hpz
   refine⟨pz,((BF i).take ((BF i).map V.bl).length).map (fun b=>if b then 1 else 0),rfl,.inl (.of (by rw[j0,cJ];rfl)),rfl,_,rfl,?_⟩
   rw[d8,N9,Mo i hi]
   refine N3 ⟨_,rfl,.inl ⟨rfl,_,.of (by rw[v9 (u9 (hS _ _ hl7) hpz)];exact hS _ _ hl7)⟩,p6,BF i,i,rfl,rfl,(by rw[v9 (u9 (hS _ _ hl7) hpz)];exact hS _ _ hl7),(Jy i hi).1,(Jy i hi).2,q _ ((g7.trans hS).trans (n8.new hpz))⟩
end
variable {ns:List Int}
theorem nZ {k:Nat} (h:k<ns.length):rV (ns.map V.int) (k:Int)=some (.int (ns.getD k 0)):=by
 refine F6 ?_
 rw[v8,i6 h,E9,i6 h];rfl
def ly (x:Int) (b:Bool):Prop:=b=false->0<=x/\x<2147483647
section
variable {P:i8}{w:t9}{K:j7}{mg:Str->Option b9}{base:Heap}{f:Addr}{fd:A9}
def jR (K:j7):Sp:=fun vs H Q _=>∃(a:Addr) (ns:List Int) (k:Nat),vs=[.ref a,.int k]/\fM K H a (ns.map V.int)/\∀x,Q (.int x) H
abbrev lT:Stmt:=top 69
theorem xI:B1 ["_law_script","_law_k"] ["_law_script","_law_k"] (r6 lT):=⟨rfl,rfl,rfl,by decide+kernel,rfl,by decide+kernel,by decide+kernel⟩
theorem ye (F:Y3 K "_law_cell_at" "_law_cell_at" lT f fd) (B:Bt mg):G7 P w K mg base cQ 1 f fd ["_law_script","_law_k"] (jR K):=by
 refine F.ok xI (fun vs H Q E h=>?_) (fun cdv A outer s H vs Q E hr h=>?_)
 ·obtain⟨a,ns,k,rfl,_⟩:=h
  rfl
 obtain⟨a,ns,k,rfl,ha,q⟩:=h
 refine⟨_,j5 (K4 (E4 Eu (pv 1) (A1 E2 rfl B.len C9 (b8 (pv 0) f7)) (G0 _)) (n6 (A5 (K5 K1 (pv 0) (pv 1) (fun _ _=>rfl)))) D4)
  (n6 (A5 t8)),?_⟩
 refine⟨_,rfl,_,rfl,a,_,rfl,.inl ha,_,_,rfl,rfl,_,rfl,?_⟩
 refine Ik (fun c=>?_) (fun c=>q 0)
 have c':(k:Int)<(((ns.map V.int).length:Nat):Int):=of_decide_eq_true c
 rw[d8] at c'
 exact⟨_,rfl,_,rfl,a,_,_,_,rfl,rfl,ha,nZ (by lia),q _⟩
def ou (K:j7):Sp:=fun vs H Q _=>∃(a:Addr) (ns:List Int) (k:Nat),vs=[.ref a,.int k]/\fM K H a (ns.map V.int)/\∀l x b,H l=none->ly x b->Q (.ref l) (A6 H l (.lst [.int x,.bl b]))
abbrev sX:Stmt:=top 70
theorem vi:B1 ["_law_script","_law_k","_law_cell"] ["_law_script","_law_k"] (r6 sX):=⟨rfl,rfl,rfl,by decide+kernel,rfl,by decide+kernel,by decide+kernel⟩
theorem Ez (F:Y3 K "_law_state" "_law_state" sX f fd) (c1:S6 P w K mg base 1 "_law_cell_at" ["_law_script","_law_k"] (jR K)):G7 P w K mg base cQ 2 f fd ["_law_script","_law_k"] (ou K):=by
 refine F.ok vi (fun vs H Q E h=>?_) (fun cdv A outer s H vs Q E hr h=>?_)
 ·obtain⟨a,ns,k,rfl,_⟩:=h
  rfl
 obtain⟨a,ns,k,rfl,ha,q⟩:=h
 refine⟨_,j5 (F7 (i:=2) vi.nd rfl (A4 rfl) (B0 c1 hr rfl (b8 (pv 0) (b8 (pv 1) f7))))
  (j5 (K4 (E4 Oj (pv 2) (J6 Et t8 t8) (G0 _)) (n6 (A5 (ag (b8 (J6 xX (pv 2) (J6 Et t8 t8)) (b8 iV f7))))) D4)
  (n6 (A5 (ag (b8 (J6 jX (pv 2) t8) (b8 iV f7)))))),?_⟩
 have hp:OY 10 18:=⟨by decide,by decide,by decide⟩
 refine⟨_,rfl,_,rfl,a,ns,k,rfl,ha,fun x=>?_⟩
 refine⟨_,rfl,_,_,rfl,rfl,hp,_,_,rfl,rfl,_,rfl,?_⟩
 refine Ik (fun c=>?_) (fun c=>?_)
 ·exact⟨_,rfl,_,_,rfl,rfl,hp,_,_,rfl,rfl,(by show 2<=i7;decide),fun l hl=>q l _ _ hl (fun z=>by cases z)⟩
 ·exact⟨_,rfl,_,_,rfl,rfl,(by show (0:Int)<2147483647;decide),(by show 2<=i7;decide),fun l hl=>q l _ _ hl (fun _=>⟨eY _ (by decide),cg _ (by decide)⟩)⟩
def fh:Sp:=fun vs H Q _=>∃(l:Addr) (m x:Int) (b:Bool),vs=[.ref l,.int m]/\H l=some (.lst [.int x,.bl b])/\ly x b/\1<=m/\m<=1000 /\
 ∀(y:Nat) (x':Int),(y:Int)<m->ly x' b->Q (.int y) (A6 H l (.lst [.int x',.bl b]))
abbrev xJ:Stmt:=top 71
theorem nR:B1 ["_law_state_here","_law_many","_law_found","_law_mixed"] ["_law_state_here","_law_many"] (r6 xJ):=⟨rfl,rfl,rfl,by decide+kernel,rfl,by decide+kernel,by decide+kernel⟩
theorem HI (F:Y3 K "_law_take" "_law_take" xJ f fd):G7 P w K mg base cQ 1 f fd ["_law_state_here","_law_many"] fh:=by
 refine F.ok nR (fun vs H Q E h=>?_) (fun cdv A outer s H vs Q E hr h=>?_)
 ·obtain⟨l,m,x,b,rfl,_⟩:=h
  rfl
 obtain⟨l,m,x,b,rfl,hl,hst,m1,m2,q⟩:=h
 refine⟨_,j5 (K4 (az (K5 K1 (pv 0) t8 (fun _ _=>rfl)))
   (j5 (F7 (i:=2) nR.nd rfl (A4 rfl) (J6 jX (K5 K1 (pv 0) t8 (fun _ _=>rfl)) (pv 1)))
   (j5 (iT (J6 zH (K5 K1 (pv 0) t8 (fun _ _=>rfl)) (pv 1)) (xW (pv 0) t8 oG))
   (n6 (A5 (pv 2))))) D4)
  (j5 (iT (J6 jX (J6 cE (J6 ma (K5 K1 (pv 0) t8 (fun _ _=>rfl)) t8) t8) t8) (xW (pv 0) t8 oG))
  (j5 (F7 (i:=3) nR.nd rfl (A4 rfl) (J6 jX (J6 cE (J6 cE (J6 ma (K5 K1 (pv 0) t8 (fun _ _=>rfl)) (K5 K1 (pv 0) t8 (fun _ _=>rfl))) (J6 ma t8 (K5 K1 (pv 0) t8 (fun _ _=>rfl)))) t8) t8))
  (j5 (F7 (i:=3) nR.nd rfl (A4 rfl) (J6 jX (J6 cE (J6 ma (pv 3) (pv 3)) (J6 ma t8 (pv 3))) t8))
  (n6 (A5 (J6 jX (J6 zH (pv 3) t8) (pv 1))))))),?_⟩
 have fin:∀(z x':Int),ly x' b->Q (.int (z % m)) (A6 H l (.lst [.int x',.bl b])):=fun z x' h=>by
  have h1:=eY z (show m≠0 by lia)
  have h2:=cg z (show 0<m by lia)
  have e:z % m=(((z % m).toNat:Nat):Int):=by lia
  rw[e]
  exact q _ x' (by lia) h
 refine⟨_,rfl,l,_,_,_,rfl,rfl,.of hl,F6 (j:=1) rfl,_,rfl,?_⟩
 cases b with
 | true =>
  refine O2 ⟨_,rfl,l,_,_,_,rfl,rfl,.of hl,F6 (j:=0) rfl,_,rfl,_,_,rfl,rfl,(by lia),?_⟩
  refine⟨_,rfl,l,_,_,_,rfl,rfl,.of hl,F6 (j:=0) rfl,_,rfl,_,_,rfl,rfl,⟨by lia,by lia⟩,_,rfl,l,_,_,0,rfl,rfl,hl,rfl,?_⟩
  exact⟨_,rfl,fin _ _ (fun z=>by cases z)⟩
 | false =>
  obtain⟨x0,x1⟩:=hst rfl
  refine N3 ⟨_,rfl,l,_,_,_,rfl,rfl,.of hl,F6 (j:=0) rfl,_,_,rfl,rfl,.inl ⟨by lia,by lia⟩,_,_,rfl,rfl,_,_,rfl,rfl,(by show (0:Int)<2147483647;decide),_,rfl,l,_,_,0,rfl,rfl,hl,rfl,?_⟩
  have y0:=eY (x*48271+29) (show (2147483647:Int)≠0 by decide)
  have y1:=cg (x*48271+29) (show (0:Int)<2147483647 by decide)
  show kL _ _ _ _ (A6 H l (.lst [.int ((x*48271+29) % 2147483647),.bl false]))
  generalize (x*48271+29) % 2147483647=y at y0 y1
  have hl2:A6 H l (.lst [.int y,.bl false]) l=some (.lst [.int y,.bl false]):=j0
  refine⟨_,rfl,l,_,_,_,rfl,rfl,.of hl2,F6 (j:=0) rfl,_,rfl,l,_,_,_,rfl,rfl,.of hl2,F6 (j:=0) rfl,_,_,rfl,rfl,.inl ⟨by lia,by lia⟩,_,rfl,l,_,_,_,rfl,rfl,.of hl2,F6 (j:=0) rfl,_,_,rfl,rfl,.inr ⟨by lia,by lia⟩,_,_,rfl,rfl,_,_,rfl,rfl,_,_,rfl,rfl,(by show (0:Int)<2147483629;decide),?_⟩
  have z0:=eY (y*y+39373*y+7) (show (2147483629:Int)≠0 by decide)
  have z1:=cg (y*y+39373*y+7) (show (0:Int)<2147483629 by decide)
  generalize (y*y+39373*y+7) % 2147483629=z at z0 z1
  refine⟨_,rfl,_,rfl,_,_,rfl,rfl,.inl ⟨by lia,by lia⟩,_,rfl,_,_,rfl,rfl,.inr ⟨by lia,by lia⟩,_,_,rfl,rfl,_,_,rfl,rfl,(by show (0:Int)<2147483587;decide),?_⟩
  exact⟨_,rfl,_,_,rfl,rfl,⟨by decide,by decide⟩,_,rfl,_,_,rfl,rfl,(by lia),fin _ _ (fun _=>⟨y0,y1⟩)⟩
end
variable {n:Nat}
theorem Ii {k:Nat} (h:k<n):Ij n (k:Int)=some k:=by
 unfold Ij
 rw[if_pos (by lia),if_pos (by lia)];simp
theorem vh:∀{l:List Int}{y:Nat}{v:Int},(∀x∈l,0<=x)->0<v->y<l.length->0<(l.set y v).sum
 | [],y,_,_,_,h=>by simp at h
 | a::l,0,v,h,hv,_=>by
  rw[List.set_cons_zero,P9]
  have:=Mt.eF (l:=l) fun x hx=>h x (i4 _ hx)
  lia
 | a::l,y+1,v,h,hv,hy=>by
  rw[List.set_cons_succ,P9]
  have h1:=vh (l:=l) (y:=y) (fun x hx=>h x (i4 _ hx)) hv (by simpa using hy)
  have h2:=h a f9
  lia
abbrev DR (rs:List (List Int)):C1:=.tuple (rs.map DI)
theorem W0 (h:ns.length<=1000):cq (DI ns):=fun ds e=>by
 injection e with e
 rw[<- e,d8];exact h
variable {rs:List (List Int)}
theorem oE (h:rs.length<=1000):cq (DR rs):=fun ds e=>by
 injection e with e
 rw[<- e,d8];exact h
theorem lM (h:kB n 5 rs) (hn:n<=1000):∀ds,DR rs=.tuple ds->∀r∈ds,cq r:=fun ds e r hr=>by
 injection e with e
 rw[<- e] at hr
 obtain⟨row,hrow,e2⟩:=List.mem_map.mp hr
 rw[<- e2]
 exact W0 (by rw[(h.row row hrow).len];exact hn)
theorem Mi {st:Addr}{k:Nat} (h:Dt st H (DR rs) v) (hk:k<rs.length):
  ∃r xs b,v=.ref r/\H r=some (.tup xs)/\xs[k]?=some (.ref b)/\H b=some (.tup ((rs.getD k []).map V.int)):=by
 obtain⟨r,xs,e,_,hr,hds⟩:=h.untup
 have hl:=hds.len
 rw[d8] at hl
 have hkx:k<xs.length:=by lia
 obtain⟨d,hd,dt⟩:=hds.get (i:=k) (x:=xs[k]) (i6 hkx)
 rw[v8,i6 hk] at hd
 have e2:rs.getD k []=rs[k]:=by rw[E9,i6 hk];rfl
 have e3:d=DI rs[k]:=(D8 hd).symm
 subst e3
 obtain⟨b,eb,_,hb⟩:=dt.di
 exact⟨r,xs,b,e,hr,by rw[i6 hkx,eb],by rw[e2];exact hb⟩
theorem gG (h:gx n 20 ns) (h1:1<=n) (h4:n<=4):Q5 20 (DI ns)=true:=by
 unfold Q5
 rw[V0,sD,h.len,decide_eq_true (show (1:Int)<=(n:Int) by lia),decide_eq_true (show (n:Int)<=4 by lia),decide_eq_true h.pos]
 have:S2 0 20 (DI ns)=true:=by
  show (ns.map N1).all (af 0 20)=true
  rw[U9]
  refine List.all_eq_true.mpr fun x hx=>?_
  have:=h.nn x hx
  show (decide ((0:Int)<=x)&&decide (x<=20))=true
  rw[decide_eq_true this.1,decide_eq_true (show x<=20 by lia)];rfl
 rw[this];rfl
theorem oQ (h:kB n 5 rs):K8 n (DR rs)=true:=by
 show (decide (((rs.map DI).length:Int)=n)&&(rs.map DI).all (fun r=>S2 0 5 r&&decide ((bI r:Int)=n)))=true
 rw[d8,h.len,decide_eq_true rfl,Q0,U9]
 refine List.all_eq_true.mpr fun r hr=>?_
 have hw:=h.row r hr
 show (S2 0 5 (DI r)&&decide ((bI (DI r):Int)=n))=true
 rw[V0,hw.len,decide_eq_true rfl,Bool.and_true]
 show (r.map N1).all (af 0 5)=true
 rw[U9]
 refine List.all_eq_true.mpr fun x hx=>?_
 have:=hw.nn x hx
 show (decide ((0:Int)<=x)&&decide (x<=5))=true
 rw[decide_eq_true this.1,decide_eq_true (show x<=5 by lia)];rfl
section
variable {X:Cx}
noncomputable def rSlS:V->Option Int->Option Int->Hp->VK->Prop:=fun x lo hi H Q=>∃(a:Addr) (xs:List V),x=.ref a/\H a=some (.tup xs)/\∀p H',n8 H H'->H' p=some (.tup (nD xs lo hi))->Q (.ref p) H'
end
section
variable {P:i8}{w:t9}{K:j7}{mg:Str->Option b9}{base:Heap}{f:Addr}{fd:A9}
def ba (l:Addr) (b:Bool) (H H':Hp):Prop:=Kp l H H'/\∃x,H' l=some (.lst [.int x,.bl b])/\ly x b
variable {l:Addr}{b:Bool}{H:Hp}
theorem ba.start {x:Int} (h:H l=some (.lst [.int x,.bl b])) (ok:ly x b):ba l b H H:=⟨Kp.refl l H,x,h,ok⟩
variable {H1:Hp}
theorem ba.same {H2:Hp} (s:ba l b H H1) (g:n8 H1 H2):ba l b H H2:=by
 obtain⟨k,x,h,ok⟩:=s
 exact⟨k.trans (g.kp l),x,g _ _ h,ok⟩
theorem ba.new {l:Addr}{b:Bool}{H H1:Hp}{p:Addr}{o:HO} (s:ba l b H H1) (h:H1 p=none):ba l b H (A6 H1 p o):=s.same (n8.new h)
theorem ba.trans {l:Addr}{b:Bool}{H H1 H2:Hp} (s:ba l b H H1) (t:ba l b H1 H2):ba l b H H2:=⟨s.1.trans t.1,t.2⟩
theorem ba.ne {p:Addr} (s:ba l b H H1) (h:H1 p=none):l≠p:=by
 obtain⟨_,x,e,_⟩:=s
 exact u9 e h
theorem ba.go {x:Int} (s:ba l b H H1) (ok:ly x b):ba l b H (A6 H1 l (.lst [.int x,.bl b])):=⟨s.1.trans Kp.at,x,j0,ok⟩
def sI:Sp:=fun vs H Q _=>∃(l:Addr) (n:Nat) (x:Int) (b:Bool),vs=[.ref l,.int n]/\H l=some (.lst [.int x,.bl b])/\ly x b/\1<=n/\n<=4 /\
 ∀(p:Addr) (H':Hp) (ns:List Int),ba l b H H'->H' p=some (.tup (ns.map V.int))->Mt.gx n 20 ns->Q (.ref p) H'
abbrev xM:Stmt:=top 73
theorem sS:B1 ["_law_state_here","_law_kinds","_law_most","_law_found"] ["_law_state_here","_law_kinds"] (r6 xM):=⟨rfl,rfl,rfl,by decide+kernel,rfl,by decide+kernel,by decide+kernel⟩
theorem HL (F:Y3 K "_law_urn" "_law_urn" xM f fd) (B:Bt mg) (c1:S6 P w K mg base 1 "_law_take" ["_law_state_here","_law_many"] fh):G7 P w K mg base cQ 2 f fd ["_law_state_here","_law_kinds"] sI:=by
 refine F.ok sS (fun vs H Q E h=>?_) (fun cdv A outer s H vs Q E hr h=>?_)
 ·obtain⟨l,n,x,b,rfl,_⟩:=h
  rfl
 obtain⟨l,n,x,b,rfl,hl,hst,n1,n4,q⟩:=h
 refine⟨_,j5 (F7 (i:=2) sS.nd rfl (bf rfl) (K5 K1 (ag (b8 t8 (b8 t8 (b8 t8 f7)))) (B0 c1 hr rfl (b8 (pv 0) (b8 t8 f7))) (fun _ _=>rfl)))
  (j5 (iQ (N:=["_law_kind","_law_state_here","_law_most"]) (ix:=[none,some 0,some 2]) (ifs:=[]) (tc:=T5) (i:=3) rfl sS.nd rfl rfl (U3 rfl B.range (b8 (pv 1) f7))
   (fun s H ex=>bz (i:=0) (by decide+kernel) rfl (A4 rfl) (.inr rfl)) (fun s H ex=>L8) (fun s H ex=>B0 c1 hr rfl (b8 (pv 1) (b8 (pv 2) f7))) rfl (by decide+kernel) (by rfl) (by rfl) (fun _=>rfl) (by rfl))
  (j5 (K4 (E4 Z0 (A1 (bS rfl) rfl B.sum Ap (b8 (pv 3) f7)) t8 (G0 _)) (n6 (iT (J6 cE t8 (B0 c1 hr rfl (b8 (pv 0) (b8 t8 f7)))) (xW (pv 3) (B0 c1 hr rfl (b8 (pv 0) (b8 (pv 1) f7))) oG))) D4)
  (n6 (A5 (D9 M9 rfl B.tuple R3 (b8 (pv 3) f7)))))),?_⟩
 have s0:ba l b H H:=ba.start hl hst
 refine⟨(by show 3<=i7;decide),fun p0 hp0=>⟨_,rfl,?_⟩⟩
 have s1:ba l b H (A6 H p0 (.lst [.int 3,.int 8,.int 21])):=s0.new hp0
 obtain⟨_,x1,hx1,ok1⟩:=id s1
 refine⟨l,3,x1,b,rfl,hx1,ok1,by decide,by decide,fun y x2 hy tU=>?_⟩
 have s2:=s1.go tU
 have k2:Kp l (A6 H p0 (.lst [.int 3,.int 8,.int 21])) (A6 (A6 H p0 (.lst [.int 3,.int 8,.int 21])) l (.lst [.int x2,.bl b])):=Kp.at
 generalize A6 (A6 H p0 (.lst [.int 3,.int 8,.int 21])) l (.lst [.int x2,.bl b])=H1 at s2 k2
 have hp1:H1 p0=some (.lst [.int 3,.int 8,.int 21]):=k2 _ _ (s0.ne hp0).symm j0
 obtain⟨m,hm,m1,m2⟩:∃m:Int,([.int 3,.int 8,.int 21]:List V)[y]?=some (.int m)/\1<=m/\m<=21:=by
  have hy':y<3:=by lia
  match y,hy' with
  | 0,_=>exact⟨3,rfl,by decide,by decide⟩
  | 1,_=>exact⟨8,rfl,by decide,by decide⟩
  | 2,_=>exact⟨21,rfl,by decide,by decide⟩
 refine⟨p0,_,_,_,rfl,rfl,.of hp1,F6 hm,?_⟩
 refine⟨_,rfl,(n:Int),rfl,by lia,by lia,?_⟩
 refine aI (lo:=0) (n:=n) (sz (by lia)) (fun i ys H2=>ba l b H H2/\∃ns:List Int,ys=ns.map V.int/\ns.length=i/\∀z∈ns,0<=z/\z<=20)
  ⟨s2,[],rfl,rfl,by simp⟩ (fun i ys H2 h=>?_) rfl (fun i ys H2 hi h=>?_) (fun ys H2 h=>?_)
 ·obtain⟨_,ns,rfl,hn,_⟩:=h
  rw[d8];exact hn
 ·obtain⟨s3,ns,rfl,hn,hb⟩:=h
  obtain⟨_,x3,hx3,ok3⟩:=id s3
  refine⟨_,rfl,_,rfl,l,m,x3,b,rfl,hx3,ok3,m1,by lia,fun y x4 hy ok4=>?_⟩
  refine⟨s3.go ok4,ns++[(y:Int)],by rw[w5];rfl,by rw[y6,hn];rfl,fun z hz=>?_⟩
  rcases List.mem_append.mp hz with h|h
  ·exact hb z h
  ·rw[List.mem_singleton.mp h];lia
 ·obtain⟨s3,ns,rfl,hn,hb⟩:=h
  intro p hp
  have s4:ba l b H (A6 H2 p (.lst (ns.map V.int))):=s3.new hp
  have hpl:p≠l:=(s3.ne hp).symm
  refine⟨_,rfl,p,ns,rfl,.inl (.of j0),rfl,_,rfl,?_⟩
  by_cases hz:ns.sum=0
  ·rw[hz,decide_eq_true rfl]
   obtain⟨_,x4,hx4,ok4⟩:=id s4
   refine O2 ⟨_,rfl,l,20,x4,b,rfl,hx4,ok4,by decide,by decide,fun v x5 hv ok5=>?_⟩
   have s5:=s4.go ok5
   have k5:Kp l (A6 H2 p (.lst (ns.map V.int))) (A6 (A6 H2 p (.lst (ns.map V.int))) l (.lst [.int x5,.bl b])):=Kp.at
   generalize A6 (A6 H2 p (.lst (ns.map V.int))) l (.lst [.int x5,.bl b])=H4 at s5 k5
   obtain⟨_,x6,hx6,ok6⟩:=id s5
   refine⟨_,_,rfl,rfl,_,rfl,_,rfl,_,rfl,l,n,x6,b,rfl,hx6,ok6,by lia,by lia,fun y x7 hy ok7=>?_⟩
   have s6:=s5.go ok7
   have k6:Kp l H4 (A6 H4 l (.lst [.int x7,.bl b])):=Kp.at
   generalize A6 H4 l (.lst [.int x7,.bl b])=H5 at s6 k6
   have hp5:H5 p=some (.lst (ns.map V.int)):=k6 _ _ hpl (k5 _ _ hpl j0)
   have hpn:H p=none:=by
    cases e:H p with
    | none=>rfl
    | some o=>rw[s3.1 p o hpl e] at hp;cases hp
   have hy':y<ns.length:=by lia
   refine⟨p,_,_,y,rfl,rfl,hp5,Ii (by rw[d8];exact hy'),?_⟩
   refine⟨_,rfl,p,_,rfl,.inl ⟨.of j0,fun t ht=>?_⟩⟩
   have s7:ba l b H (A6 H5 p (.lst ((ns.map V.int).set y (.int (1+v))))):=by
    obtain⟨k,x',e,ok⟩:=s6
    exact⟨fun c o hc hco=>by rw[v9 (fun z=>by rw[z,hpn] at hco;cases hco)];exact k c o hc hco,x',by rw[v9 hpl.symm];exact e,ok⟩
   refine q t _ (ns.set y (1+v)) (s7.new ht) (by rw[j0,List.map_set]) ⟨by rw[jx];exact hn,fun z hz=>?_,vh (fun z hz=>(hb z hz).1) (by lia) hy'⟩
   rcases List.mem_or_eq_of_mem_set hz with h|h
   ·exact hb z h
   ·rw[h];lia
  ·rw[decide_eq_false (show ¬ V.int ns.sum=V.int 0 from fun z=>hz (by injection z))]
   refine N3 ⟨_,rfl,p,_,rfl,.inl ⟨.of j0,fun t ht=>?_⟩⟩
   refine q t _ ns (s4.new ht) j0 ⟨hn,hb,?_⟩
   have:=Mt.eF (l:=ns) fun z hz=>(hb z hz).1
   lia
end
theorem vS {xs:List V}{y:Nat} (h:y<=xs.length):nD xs (some (y:Int)) none=xs.drop y:=by
 unfold nD
 have e1:HT.tu xs.length 0 (some (y:Int))=y:=by rw[HT.zu];lia
 rw[e1,HT.vn]
 exact J4 (by rw[iz];lia)
theorem FH {xs:List V}{y:Nat} (h:y<=xs.length):nD xs none (some (y:Int))=xs.take y:=by
 unfold nD
 have e1:HT.tu xs.length xs.length (some (y:Int))=y:=by rw[HT.zu];lia
 rw[e1,HT.vn,List.drop_zero,PM]
theorem Ag {st pr:Addr}{H H':Hp} (k:∀c o,c≠pr->H c=some o->H' c=some o) (hp:∀xs,H pr=some (.tup xs)->False):∀{rs:List (List Int)}{xs:List V},T6 st H (rs.map DI) xs->T6 st H' (rs.map DI) xs
 | [],_,h=>by unfold T6 at h;subst h;exact T6.nil _ _
 | r::rs,_,h=>by
  rw[r9] at h ⊢
  obtain⟨x,r',e,h1,h2⟩:=h.uncons
  subst e
  obtain⟨a,ea,ne,ha⟩:=h1.di
  subst ea
  exact T6.cons (Dt.mkI ne (k a _ (fun z=>by rw[z] at ha;exact hp _ ha) ha)) (Ag k hp h2)
section
variable {P:i8}{w:t9}{K:j7}{mg:Str->Option b9}{base:Heap}{f:Addr}{fd:A9}
def kP:Sp:=fun vs H Q _=>∃(l:Addr) (n:Nat) (x:Int) (b:Bool),vs=[.ref l,.int n]/\H l=some (.lst [.int x,.bl b])/\ly x b/\1<=n/\n<=4 /\
 ∀(v:V) (H':Hp) (rs:List (List Int)),ba l b H H'->Dt l H' (DR rs) v->Mt.kB n 5 rs->Q v H'
abbrev tm:Stmt:=top 74
theorem eJ:B1 ["_law_state_here","_law_kinds","_law_way","_law_more","_law_line_here","_law_rows","_law_kind","_law_at"] ["_law_state_here","_law_kinds"] (r6 tm):=⟨rfl,rfl,rfl,by decide+kernel,rfl,by decide+kernel,by decide+kernel⟩
theorem EC (F:Y3 K "_law_rule" "_law_rule" tm f fd) (B:Bt mg) (c1:S6 P w K mg base 1 "_law_take" ["_law_state_here","_law_many"] fh):G7 P w K mg base cQ 2 f fd ["_law_state_here","_law_kinds"] kP:=by
 refine F.ok eJ (fun vs H Q E h=>?_) (fun cdv A outer s H vs Q E hr h=>?_)
 ·obtain⟨l,n,x,b,rfl,_⟩:=h
  rfl
 obtain⟨l,n,x,b,rfl,hl,hst,n1,n4,q⟩:=h
 refine⟨_,j5 (F7 (i:=2) eJ.nd rfl (bf rfl) (B0 c1 hr rfl (b8 (pv 0) (b8 t8 f7))))
  (j5 (F7 (i:=3) eJ.nd rfl (bf rfl) (B0 c1 hr rfl (b8 (pv 0) (b8 t8 f7))))
  (j5 (K4 (E4 Z0 (pv 2) t8 (G0 _)) (n6 (A5 (D9 M9 rfl B.tuple R3 (b8 (O1 (N:=["_law_one","_law_kinds","_law_more"]) (ix:=[none,some 1,some 3]) (ifs:=[]) (tc:=T5) rfl (U3 rfl B.range (b8 (pv 1) f7))
    (fun s H ex=>bz (i:=0) (by decide+kernel) rfl (bf rfl) (.inl rfl)) (fun s H ex=>L8)
    (fun s H ex=>D9 (Nz (K:=K) rfl) rfl B.tuple R3 (b8 (O1 (N:=["_law_other","_law_more","_law_one"]) (ix:=[none,some 2,some 0]) (ifs:=[]) (tc:=T5) rfl (U3 rfl B.range (b8 (pv 1) f7))
     (fun s H ex=>bz (i:=0) (by decide+kernel) rfl (A4 rfl) (.inr rfl)) (fun s H ex=>L8)
     (fun s H ex=>J6 ma (pv 1) (D9 gr rfl B.int jK (b8 (fj Z0 (pv 2) (pv 0) (G0 _)) f7))) rfl (by decide+kernel) (by rfl) (by rfl) (fun _=>rfl)) f7)) rfl (by decide+kernel) (by rfl) (by rfl) (fun _=>rfl)) f7)))) D4)
  (j5 (K4 (E4 Z0 (pv 2) t8 (G0 _))
   (j5 (iQ (N:=["_law_kind","_law_state_here"]) (ix:=[none,some 0]) (ifs:=[]) (tc:=T5) (i:=4) rfl eJ.nd rfl rfl (U3 rfl B.range (b8 (pv 1) f7))
    (fun s H ex=>bz (i:=0) (by decide+kernel) rfl (A4 rfl) (.inr rfl)) (fun s H ex=>L8) (fun s H ex=>B0 c1 hr rfl (b8 (pv 1) (b8 t8 f7))) rfl (by decide+kernel) (by rfl) (by rfl) (fun _=>rfl) (by rfl))
   (j5 (F7 (i:=5) eJ.nd rfl (A4 rfl) (ag f7))
   (j5 (lV Z6 rfl (U3 rfl B.range (b8 (pv 1) f7)) (R4 (i:=6) eJ.nd rfl (A4 rfl))
    (j5 (F7 (i:=7) eJ.nd rfl (A4 rfl) (B0 c1 hr rfl (b8 (pv 0) (b8 (pv 1) f7))))
    (n6 (X9 (cZ gB su sr rD (pv 5) (b8 (D9 M9 rfl B.tuple R3 (b8 (J6 xZ (oY sO (pv 4) (tG (pv 7)) tH) (oY sO (pv 4) tH (tG (pv 7)))) f7)) f7))))))
   (n6 (A5 (D9 M9 rfl B.tuple R3 (b8 (pv 5) f7))))))) D4)
  (n6 (A5 (D9 M9 rfl B.tuple R3 (b8 (O1 (N:=["_law_one","_law_kinds","_law_state_here","_law_way"]) (ix:=[none,some 1,some 0,some 2]) (ifs:=[]) (tc:=T5) rfl (U3 rfl B.range (b8 (pv 1) f7))
    (fun s H ex=>bz (i:=0) (by decide+kernel) rfl (A4 rfl) (.inr rfl)) (fun s H ex=>L8)
    (fun s H ex=>D9 (Nz (K:=K) rfl) rfl B.tuple R3 (b8 (O1 (N:=["_law_other","_law_state_here","_law_way"]) (ix:=[none,some 2,some 3]) (ifs:=[]) (tc:=T5) rfl (U3 rfl B.range (b8 (pv 1) f7))
     (fun s H ex=>bz (i:=0) (by decide+kernel) rfl (A4 rfl) (.inr rfl)) (fun s H ex=>L8)
     (fun s H ex=>B0 c1 hr rfl (b8 (pv 1) (b8 (K5 (ixLK (K:=K) rfl) (ag (b8 t8 (b8 t8 f7))) (J6 xX (pv 2) t8) (fun _ _=>rfl)) f7))) rfl (by decide+kernel) (by rfl) (by rfl) (fun _=>rfl)) f7)) rfl (by decide+kernel) (by rfl) (by rfl) (fun _=>rfl)) f7))))))),?_⟩
 have lo62:-(2 ^ 62)<=((n:Nat):Int):=by lia
 have hi62:((n:Nat):Int)<2 ^ 62:=by lia
 have s0:ba l b H H:=ba.start hl hst
 have fin:∀(rs:List (List Int)) (ys:List V) (H3:Hp) (p ra:Addr),ba l b H H3->rs.length=n->(∀r∈rs,Mt.JC n 5 r)->T6 l H3 (rs.map DI) ys->H3 p=none->A6 H3 p (.lst ys) ra=none->Q (.ref ra) (A6 (A6 H3 p (.lst ys)) ra (.tup ys)):=fun rs ys H3 p ra s3 h1 h2 h3 hp hra=>by
  have s4:ba l b H (A6 H3 p (.lst ys)):=s3.new hp
  exact q _ _ rs (s4.new hra) (Dt.tup (s4.ne hra).symm j0 (h3.kp ((Kp.new hp).trans (Kp.new hra)))) ⟨h1,h2⟩
 refine⟨_,rfl,l,4,x,b,rfl,hl,hst,by decide,by decide,fun wy x1 hwy ok1=>?_⟩
 have s1:=s0.go ok1
 show kL _ _ _ _ (A6 H l (.lst [.int x1,.bl b]))
 generalize A6 H l (.lst [.int x1,.bl b])=H1 at s1
 obtain⟨_,x2,hx2,tU⟩:=id s1
 refine⟨_,rfl,l,6,x2,b,rfl,hx2,tU,by decide,by decide,fun mo x3 hmo ok3=>?_⟩
 have s2:=s1.go ok3
 show kL _ _ _ _ (A6 H1 l (.lst [.int x3,.bl b]))
 generalize A6 H1 l (.lst [.int x3,.bl b])=H2 at s2
 refine⟨_,rfl,rfl,_,rfl,Ik (fun c=>?_) (fun c=>?_)⟩
 ·refine⟨_,rfl,(n:Int),rfl,lo62,hi62,?_⟩
  refine aI (lo:=0) (n:=n) (sz (by lia)) (fun i ys H3=>ba l b H H3/\∃rs:List (List Int),rs.length=i/\(∀r∈rs,Mt.JC n 5 r)/\T6 l H3 (rs.map DI) ys)
   ⟨s2,[],rfl,by simp,T6.nil _ _⟩ (fun i ys H3 h=>?_) rfl (fun i ys H3 hi h=>?_) (fun ys H3 h=>?_)
  ·obtain⟨_,rs,hr1,_,hd⟩:=h
   rw[<- hd.len,d8];exact hr1
  ·obtain⟨s3,rs,hr1,hr2,hd⟩:=h
   refine⟨_,rfl,(n:Int),rfl,lo62,hi62,?_⟩
   refine aI (lo:=0) (n:=n) (sz (by lia)) (fun j zs H4=>ba l b H H4/\Kp l H3 H4/\∃r:List Int,zs=r.map V.int/\r.length=j/\∀z∈r,0<=z/\z<=5)
    ⟨s3,Kp.refl _ _,[],rfl,rfl,by simp⟩ (fun j zs H4 h=>?_) rfl (fun j zs H4 hj h=>?_) (fun zs H4 h=>?_)
   ·obtain⟨_,_,r,rfl,hr,_⟩:=h
    rw[d8];exact hr
   ·obtain⟨s4,k4,r,rfl,hr,hz⟩:=h
    refine⟨_,rfl,_,rfl,_,rfl,rfl,.inr ⟨_,rfl,_,_,rfl,rfl,.inl ⟨by lia,by lia⟩,?_⟩⟩
    refine⟨s4,k4,r++[_],by rw[w5];rfl,by rw[y6,hr];rfl,fun z hz'=>?_⟩
    rcases List.mem_append.mp hz' with h|h
    ·exact hz z h
    ·rw[List.mem_singleton.mp h]
     split <;> lia
   ·obtain⟨s4,k4,r,rfl,hr,hz⟩:=h
    intro p hp
    have s5:ba l b H (A6 H4 p (.lst (r.map V.int))):=s4.new hp
    refine⟨p,_,rfl,.inl ⟨.of j0,fun t ht=>?_⟩⟩
    have kk:Kp l H3 (A6 (A6 H4 p (.lst (r.map V.int))) t (.tup (r.map V.int))):=(k4.trans (Kp.new hp)).trans (Kp.new ht)
    refine⟨s5.new ht,rs++[r],by rw[y6,hr1];rfl,fun r' hr'=>?_,?_⟩
    ·rcases List.mem_append.mp hr' with h|h
     ·exact hr2 r' h
     ·rw[List.mem_singleton.mp h];exact⟨hr,hz⟩
    ·rw[w5]
     exact(hd.kp kk).append (T6.cons (Dt.mkI (s5.ne ht).symm j0) (T6.nil _ _))
  ·obtain⟨s3,rs,hr1,hr2,hd⟩:=h
   exact fun p hp=>⟨p,_,rfl,.inl ⟨.of j0,fun ra hra=>fin rs ys H3 p ra s3 hr1 hr2 hd hp hra⟩⟩
 ·refine⟨_,rfl,rfl,_,rfl,Ik (fun c2=>?_) (fun c2=>?_)⟩
  ·refine⟨_,rfl,(n:Int),rfl,lo62,hi62,?_⟩
   refine aI (lo:=0) (n:=n) (sz (by lia)) (fun i ys H3=>ba l b H H3/\∃ns:List Int,ys=ns.map V.int/\ns.length=i/\∀z∈ns,0<=z/\z<=2)
    ⟨s2,[],rfl,rfl,by simp⟩ (fun i ys H3 h=>?_) rfl (fun i ys H3 hi h=>?_) (fun ys H3 h=>?_)
   ·obtain⟨_,ns,rfl,hn,_⟩:=h
    rw[d8];exact hn
   ·obtain⟨s3,ns,rfl,hn,hb⟩:=h
    obtain⟨_,x4,hx4,ok4⟩:=id s3
    refine⟨_,rfl,l,3,x4,b,rfl,hx4,ok4,by decide,by decide,fun y x5 hy ok5=>?_⟩
    refine⟨s3.go ok5,ns++[(y:Int)],by rw[w5];rfl,by rw[y6,hn];rfl,fun z hz=>?_⟩
    rcases List.mem_append.mp hz with h|h
    ·exact hb z h
    ·rw[List.mem_singleton.mp h];lia
   ·obtain⟨s3,ns,rfl,hn,hb⟩:=h
    intro pl hpl
    have s4:ba l b H (A6 H3 pl (.lst (ns.map V.int))):=s3.new hpl
    have npl:pl≠l:=(s3.ne hpl).symm
    have hL4:A6 H3 pl (.lst (ns.map V.int)) pl=some (.lst (ns.map V.int)):=j0
    show kL _ _ _ _ (A6 H3 pl (.lst (ns.map V.int)))
    generalize A6 H3 pl (.lst (ns.map V.int))=H4 at s4 hL4
    refine⟨by show 0<=i7;decide,fun pr hpr=>?_⟩
    have s5:ba l b H (A6 H4 pr (.lst [])):=s4.new hpr
    have npr:pr≠l:=(s4.ne hpr).symm
    have hL5:A6 H4 pr (.lst []) pl=some (.lst (ns.map V.int)):=by rw[v9 (u9 hL4 hpr)];exact hL4
    have hR5:A6 H4 pr (.lst []) pr=some (.lst []):=j0
    have nlr:pl≠pr:=u9 hL4 hpr
    have hRn:H pr=none:=by
     cases e:H pr with
     | none=>rfl
     | some o=>rw[s4.1 pr o npr e] at hpr;cases hpr
    show kL _ _ _ _ (A6 H4 pr (.lst []))
    generalize A6 H4 pr (.lst [])=H5 at s5 hL5 hR5
    refine⟨_,rfl,(n:Int),rfl,lo62,hi62,?_⟩
    refine mv (lo:=0) (n:=n) (fun i σ H6=>ba l b H H6/\(∃o6 o7,σ=[some (.ref l),some (.int n),some (.int wy),some (.int mo),some (.ref pl),some (.ref pr),o6,o7])/\H6 pl=some (.lst (ns.map V.int))/\∃(rs:List (List Int)) (ys:List V),H6 pr=some (.lst ys)/\rs.length=i/\(∀r∈rs,Mt.JC n 5 r)/\T6 l H6 (rs.map DI) ys)
     ⟨s5,⟨none,none,rfl⟩,hL5,[],[],hR5,rfl,by simp,T6.nil _ _⟩ (fun i σ H6 hi h=>?_) (fun σ H6 h=>?_)
    ·obtain⟨s6,⟨o6,o7,rfl⟩,hL6,rs,ys,hR6,hr1,hr2,hd⟩:=h
     obtain⟨_,x6,hx6,ok6⟩:=id s6
     refine⟨_,rfl,_,rfl,l,n,x6,b,rfl,hx6,ok6,by lia,by lia,fun y x7 hy ok7=>?_⟩
     have s7:=s6.go ok7
     have k7:Kp l H6 (A6 H6 l (.lst [.int x7,.bl b])):=Kp.at
     dsimp only[R7]
     generalize A6 H6 l (.lst [.int x7,.bl b])=H7 at s7 k7
     have hL7:=k7 _ _ npl hL6
     have hR7:=k7 _ _ npr hR6
     have hd7:=hd.kp k7
     have hy':y<=(ns.map V.int).length:=by rw[d8];lia
     refine⟨_,rfl,.inl ⟨rfl,_,.of hR7⟩,_,rfl,_,rfl,_,rfl,pl,_,rfl,.of hL7,fun p1 hp1=>⟨_,rfl,_,rfl,_,rfl,pl,_,rfl,.of (by rw[v9 (u9 hL7 hp1)];exact hL7),fun p2 hp2=>?_⟩⟩
     have ea:nD (ns.map V.int) (some (y:Int)) none=(ns.drop y).map V.int:=by rw[vS hy',List.map_drop]
     have eb:nD (ns.map V.int) none (some (y:Int))=(ns.take y).map V.int:=by rw[FH hy',List.map_take]
     rw[ea,eb]
     rw[ea] at hp2
     have s8:ba l b H (A6 H7 p1 (.lst ((ns.drop y).map V.int))):=s7.new hp1
     have s9:ba l b H (A6 (A6 H7 p1 (.lst ((ns.drop y).map V.int))) p2 (.lst ((ns.take y).map V.int))):=s8.new hp2
     refine⟨p1,p2,_,_,rfl,rfl,(by rw[v9 (fun e=>by rw[<- e,j0] at hp2;cases hp2),j0]),j0,(by rw[d8,d8,iz,F9];exact sz (by lia)),fun p3 hp3=>?_⟩
     have s10:=s9.new (o:=.lst ((ns.drop y).map V.int++(ns.take y).map V.int)) hp3
     have k10:Kp l H7 (A6 (A6 (A6 H7 p1 (.lst ((ns.drop y).map V.int))) p2 (.lst ((ns.take y).map V.int))) p3 (.lst ((ns.drop y).map V.int++(ns.take y).map V.int))):=((Kp.new hp1).trans (Kp.new hp2)).trans (Kp.new hp3)
     have hp10:A6 (A6 (A6 H7 p1 (.lst ((ns.drop y).map V.int))) p2 (.lst ((ns.take y).map V.int))) p3 (.lst ((ns.drop y).map V.int++(ns.take y).map V.int)) p3=some (.lst ((ns.drop y++ns.take y).map V.int)):=by rw[j0,w5]
     generalize A6 (A6 (A6 H7 p1 (.lst ((ns.drop y).map V.int))) p2 (.lst ((ns.take y).map V.int))) p3 (.lst ((ns.drop y).map V.int++(ns.take y).map V.int))=H8 at s10 k10 hp10
     refine⟨p3,_,rfl,.inl ⟨.of hp10,fun t ht=>?_⟩⟩
     have k11:Kp l H7 (A6 H8 t (.tup ((ns.drop y++ns.take y).map V.int))):=k10.trans (Kp.new ht)
     have s11:=s10.new (o:=.tup ((ns.drop y++ns.take y).map V.int)) ht
     have ht11:A6 H8 t (.tup ((ns.drop y++ns.take y).map V.int)) t=some (.tup ((ns.drop y++ns.take y).map V.int)):=j0
     have ntl:t≠l:=(s10.ne ht).symm
     have hR11:=k11 _ _ npr hR7
     have hL11:=k11 _ _ npl hL7
     have hd11:=hd7.kp k11
     generalize A6 H8 t (.tup ((ns.drop y++ns.take y).map V.int))=H9 at k11 s11 ht11 hR11 hL11 hd11
     have hyl:ys.length=i:=by rw[<- hd.len,d8];exact hr1
     refine⟨pr,_,_,rfl,rfl,hR11,jo (by lia),?_⟩
     have ntr:t≠pr:=fun e=>by rw[e,hR11] at ht11;cases ht11
     have k12:∀c o,c≠pr->H9 c=some o->A6 H9 pr (.lst (ys++[.ref t])) c=some o:=fun c o hc ho=>by rw[v9 hc];exact ho
     have s12:ba l b H (A6 H9 pr (.lst (ys++[.ref t]))):=by
      obtain⟨k,x',e,ok⟩:=s11
      exact⟨fun c o hc hco=>by rw[v9 (fun z=>by rw[z,hRn] at hco;cases hco)];exact k c o hc hco,x',by rw[v9 npr.symm];exact e,ok⟩
     refine⟨s12,⟨_,_,rfl⟩,k12 _ _ nlr hL11,rs++[ns.drop y++ns.take y],_,j0,by rw[y6,hr1];rfl,fun r' hr'=>?_,?_⟩
     ·rcases List.mem_append.mp hr' with h|h
      ·exact hr2 r' h
      ·rw[List.mem_singleton.mp h]
       refine⟨by rw[y6,iz,F9];lia,fun z hz=>?_⟩
       have hz':z∈ns:=by
        rcases List.mem_append.mp hz with h|h
        ·exact List.mem_of_mem_drop h
        ·exact aQ h
       have:=hb z hz'
       lia
     ·rw[w5]
      refine T6.append (Ag k12 (fun xs hc=>?_) hd11) (T6.cons (Dt.mkI ntl (k12 _ _ ntr ht11)) (T6.nil _ _))
      rw[hR11] at hc;cases hc
    ·obtain⟨s6,⟨o6,o7,rfl⟩,hL6,rs,ys,hR6,hr1,hr2,hd⟩:=h
     refine⟨_,rfl,pr,_,rfl,.inl ⟨.of hR6,fun ra hra=>?_⟩⟩
     exact q _ _ rs (s6.new hra) (Dt.tup (s6.ne hra).symm j0 (hd.kp (Kp.new hra))) ⟨hr1,hr2⟩
  ·have w2:wy=2 ∨ wy=3:=by
    have h0:¬ (V.int (wy:Int)=V.int 0):=fun e=>c (decide_eq_true e)
    have h1:¬ (V.int (wy:Int)=V.int 1):=fun e=>c2 (decide_eq_true e)
    have h0':wy≠0:=fun e=>h0 (by rw[e];rfl)
    have h1':wy≠1:=fun e=>h1 (by rw[e];rfl)
    lia
   refine⟨_,rfl,(n:Int),rfl,lo62,hi62,?_⟩
   refine aI (lo:=0) (n:=n) (sz (by lia)) (fun i ys H3=>ba l b H H3/\∃rs:List (List Int),rs.length=i/\(∀r∈rs,Mt.JC n 5 r)/\T6 l H3 (rs.map DI) ys)
    ⟨s2,[],rfl,by simp,T6.nil _ _⟩ (fun i ys H3 h=>?_) rfl (fun i ys H3 hi h=>?_) (fun ys H3 h=>?_)
   ·obtain⟨_,rs,hr1,_,hd⟩:=h
    rw[<- hd.len,d8];exact hr1
   ·obtain⟨s3,rs,hr1,hr2,hd⟩:=h
    refine⟨_,rfl,(n:Int),rfl,lo62,hi62,?_⟩
    refine aI (lo:=0) (n:=n) (sz (by lia)) (fun j zs H4=>ba l b H H4/\Kp l H3 H4/\∃r:List Int,zs=r.map V.int/\r.length=j/\∀z∈r,0<=z/\z<=5)
     ⟨s3,Kp.refl _ _,[],rfl,rfl,by simp⟩ (fun j zs H4 h=>?_) rfl (fun j zs H4 hj h=>?_) (fun zs H4 h=>?_)
    ·obtain⟨_,_,r,rfl,hr,_⟩:=h
     rw[d8];exact hr
    ·obtain⟨s4,k4,r,rfl,hr,hz⟩:=h
     refine⟨_,rfl,(by show 2<=i7;decide),fun p5 hp5=>?_⟩
     have s5:ba l b H (A6 H4 p5 (.lst [.int 2,.int 6])):=s4.new hp5
     have k5:Kp l H3 (A6 H4 p5 (.lst [.int 2,.int 6])):=k4.trans (Kp.new hp5)
     obtain⟨_,x5,hx5,ok5⟩:=id s5
     obtain⟨m,hm,m1,m2⟩:∃m:Int,rV ([.int 2,.int 6]:List V) ((wy:Int) - 2)=some (.int m)/\1<=m/\m<=6:=by
      rcases w2 with e|e
      ·subst e;exact⟨2,rfl,by decide,by decide⟩
      ·subst e;exact⟨6,rfl,by decide,by decide⟩
     refine⟨_,rfl,_,_,rfl,rfl,p5,_,_,_,rfl,rfl,.of j0,hm,l,m,x5,b,rfl,hx5,ok5,m1,by lia,fun y x6 hy ok6=>?_⟩
     refine⟨s5.go ok6,k5.trans Kp.at,r++[(y:Int)],by rw[w5];rfl,by rw[y6,hr];rfl,fun z hz'=>?_⟩
     rcases List.mem_append.mp hz' with h|h
     ·exact hz z h
     ·rw[List.mem_singleton.mp h];lia
    ·obtain⟨s4,k4,r,rfl,hr,hz⟩:=h
     intro p hp
     have s5:ba l b H (A6 H4 p (.lst (r.map V.int))):=s4.new hp
     refine⟨p,_,rfl,.inl ⟨.of j0,fun t ht=>?_⟩⟩
     have kk:Kp l H3 (A6 (A6 H4 p (.lst (r.map V.int))) t (.tup (r.map V.int))):=(k4.trans (Kp.new hp)).trans (Kp.new ht)
     refine⟨s5.new ht,rs++[r],by rw[y6,hr1];rfl,fun r' hr'=>?_,?_⟩
     ·rcases List.mem_append.mp hr' with h|h
      ·exact hr2 r' h
      ·rw[List.mem_singleton.mp h];exact⟨hr,hz⟩
     ·rw[w5]
      exact(hd.kp kk).append (T6.cons (Dt.mkI (s5.ne ht).symm j0) (T6.nil _ _))
   ·obtain⟨s3,rs,hr1,hr2,hd⟩:=h
    exact fun p hp=>⟨p,_,rfl,.inl ⟨.of j0,fun ra hra=>fin rs ys H3 p ra s3 hr1 hr2 hd hp hra⟩⟩
end
def tU (d:C1):Prop:=cq d/\∀ds,d=.tuple ds->∀r∈ds,cq r
section
variable {Pr:Hp->V->Prop}{m m1 m2:Nat}{ta tb te:TE}{σ:L2.St}{H:Hp}
end
end G
namespace L2
open PySem PySem.Spec PyProof.Rows
noncomputable def TL (H:Hp):List (List Int)->List V->Prop
 | [],[]=>True
 | z::zs,x::xs=>(∃a,x=.ref a/\H a=some (.tup (z.map V.int)))/\TL H zs xs
 | _,_=>False
theorem TL.dts {st:Addr}{H:Hp}:∀{zs:List (List Int)}{xs:List V},TL H zs xs->(∀a,V.ref a∈xs->a≠st)->T6 st H (zs.map DI) xs
 | [],[],_,_=>T6.nil _ _
 | z::zs,x::xs,h,n=>by
  obtain⟨a,e,q⟩:=h.1
  subst e
  exact T6.cons (Dt.mkI (n a f9) q) (TL.dts h.2 fun b hb=>n b (i4 _ hb))
 | [],_::_,h,_=>h.elim
 | _::_,[],h,_=>h.elim
noncomputable def adr:V->Nat
 | .ref a=>a
 | _=>0
theorem yK:∀{xs:List V}{a:Addr},V.ref a∈xs->a<=(xs.map adr).sum
 | x::xs,a,h=>by
  rw[r9,P9]
  rcases List.mem_cons.mp h with e|e
  ·subst e;exact M3 _ _
  ·exact j9 (yK e) (av _ _)
theorem Jv:∀a b:List Int,D3 (a.map N1) (b.map N1)=decide (a=b)
 | [],[]=>by unfold D3;rfl
 | [],y::b=>by
  show D3 [] (.int y::b.map N1)=_
  unfold D3;rfl
 | x::a,[]=>by
  show D3 (.int x::a.map N1) []=_
  unfold D3;rfl
 | x::a,y::b=>by
  show D3 (.int x::a.map N1) (.int y::b.map N1)=_
  unfold D3
  rw[Jv a b]
  unfold X8
  by_cases h:x=y
  ·subst h;simp
  ·simp[h]
open PySem.W (KasT)
noncomputable def Lv (n:Nat) {α:Type} (Pr:α->Prop):KasT α->Prop
 | .ret a=>Pr a
 | .ask i j k=>i<n/\j<n/\∀b,Lv n Pr (k b)
theorem Lv.bind {n:Nat}{α β:Type}{Pr:α->Prop}{Pr':β->Prop}{f:α->KasT β}:∀{t:KasT α},Lv n Pr t->(∀a,Pr a->Lv n Pr' (f a))->Lv n Pr' (t.bind f)
 | .ret a,h,g=>g a h
 | .ask _ _ k,h,g=>⟨h.1,h.2.1,fun b=>Lv.bind (t:=k b) (h.2.2 b) g⟩
variable {n:Nat}
theorem Lv.ite {α:Type}{Pr:α->Prop}{c:Prop} [Decidable c] {t u:KasT α} (h1:Lv n Pr t) (h2:Lv n Pr u):Lv n Pr (if c then t else u):=by
 by_cases h:c
 ·rw[if_pos h];exact h1
 ·rw[if_neg h];exact h2
def mz (n:Nat) (p:Array Nat):Prop:=p.toList.Perm (O5 n)
variable {p:Array Nat}
theorem mz.lt (h:mz n p) (hn:0<n) (x:Nat):p.getD x 0<n:=by
 by_cases hx:x<p.size
 ·have e:p.getD x 0=p[x]:=by simp[PX,hx]
  rw[e]
  have:p[x]∈p.toList:=by simp
  exact List.mem_range.mp (h.mem_iff.mp this)
 ·have e:p.getD x 0=0:=by simp[PX,hx]
  rw[e];exact hn
theorem mz.rev {i j:Nat}(h:mz n p):mz n (W.kas_rev p i j):=(Array.perm_iff_toList_perm.mp (mirror_perm p i j _)).trans h
theorem mz.bub {i j:Nat}(h:mz n p):mz n (bubble p i j):=(Array.perm_iff_toList_perm.mp (bubble_perm p i j)).trans h
section
variable {n:Nat} (hn:0<n)
include hn
theorem yl {p:Array Nat} (hp:mz n p):∀(f m:Nat),Lv n (fun _=>True) (W.kas_asc p f m)
 | 0,m=>trivial
 | f+1,m=>⟨hp.lt hn _,hp.lt hn _,fun b=>Lv.ite trivial (yl hp f (m+1))⟩
theorem nU:∀(f:Nat) {p:Array Nat} (m q:Nat),mz n p->Lv n (fun r=>mz n r.1) (W.kas_desc f p m q)
 | 0,p,m,q,hp=>hp
 | f+1,p,m,q,hp=>⟨hp.lt hn _,hp.lt hn _,fun b=>Lv.ite (Lv.ite (nU f _ _ hp.rev) (nU f _ _ hp)) ⟨hp.lt hn _,hp.lt hn _,fun d=>Lv.ite hp (nU f _ _ hp)⟩⟩
variable {p:Array Nat}
theorem vH (hp:mz n p) (a b:Nat):Lv n (fun r=>mz n r.2) (W.kas_tail3 a b p):=by
 unfold W.kas_tail3
 exact Lv.bind (yl hn hp.rev _ _) fun _ _=>hp.rev
theorem mR (hp:mz n p) (a b:Nat):Lv n (fun r=>mz n r.2) (PK a b p):=by
 unfold PK
 exact Lv.bind (nU hn _ _ _ hp) fun r hr=>Lv.ite (vH hn hr.rev _ _) (vH hn hr _ _)
theorem ER (hp:mz n p) (a:Nat):Lv n (fun r=>mz n r.2) (W.kas_count a p):=by
 unfold W.kas_count
 exact Lv.bind (yl hn hp _ _) fun m _=>Lv.ite hp (Lv.ite ⟨hp.lt hn _,hp.lt hn _,fun c=>Lv.ite hp (mR hn hp.rev _ _)⟩ (mR hn hp _ _))
theorem pG {p:Array Nat} (hp:mz n p) (k:Nat):∀(f l r:Nat),Lv n (fun _=>True) (W.kas_place p k f l r)
 | 0,l,r=>trivial
 | f+1,l,r=>by
  unfold W.kas_place
  exact Lv.ite trivial ⟨hp.lt hn _,hp.lt hn _,fun c=>Lv.ite (pG hp k f _ _) (pG hp k f _ _)⟩
theorem ES:∀(f:Nat) {p:Array Nat} (k:Nat),mz n p->Lv n (mz n) (W.kas_bin f p k)
 | 0,p,k,hp=>hp
 | f+1,p,k,hp=>Lv.bind (pG hn hp _ _ _ _) fun l _=>ES f _ hp.bub
theorem HU:Lv n (mz n) (gy n):=by
 unfold gy
 have h0:mz n (bg (O5 n)):=Cs _
 exact Lv.bind (ER hn h0 _) fun r hr=>Lv.ite (ES hn _ _ hr) hr
end
end L2
namespace L2
open PySem PySem.Spec PyProof.Rows
section
variable {prog:i8}{w:t9}{A:y7}{E:b9->f6->Prop}{s:f6}
def Pw (h:Heap) (it d:Addr) (i n ep:Nat) (a:Addr):Prop:=∃(f:Bool) (ok ov:b9),Cj h it d i n ep ok ov a f
variable {it d:Addr}{od:Obj}{i ep:Nat}{es:Array M6}
theorem vL {a:Addr}{oa:Obj}{en:M6}{Q:Option b9->f6->Prop} (hit:Pw s.heap it d i es.size ep a) (ha:s.heap.get? a=some oa) (hai:a≠it)
  (hod:s.heap.get? d=some od) (hdd:od.data=.dict es ep) (hx:es[i]?=some en)
  (hQ:∀h',Pw h' it d (i+1) es.size ep a->h'.get? s.heap.objs.size=some { cls:=.type "tuple",data:=.seq #[en.key,en.val] }->h'.objs.size=s.heap.objs.size+1 ->
   (∀b o,b≠it->s.heap.get? b=some o->h'.get? b=some o)->Q (some (.ref s.heap.objs.size)) { s with heap:=h' }):j6 (r0 prog w) A (Y4 (.ref it)) Q E s:=by
 obtain⟨hp,g,dr,tk,os⟩:=s
 obtain⟨f,ok,ov,hit⟩:=hit
 have tI:gv ⟨hp,g,dr,tk,os⟩ (.ref it) "dict_itemiterator":=⟨_,hit,rfl⟩
 unfold Y4
 refine b7 (W2 (J1 (name:=M5 "__next__") tI G8 (J7 G8 tI aa ?_ (Z4 _))))
 refine b7 (g0 (b7 (b7 ?_)))
 first|refine b7 (G5 tI (g0 (b7 (dB hit rfl ?_))))|refine b7 (L5 tI (g0 (b7 (dB hit rfl ?_))))
 have own:Q8 "dict_itemiterator"=true:=by decide
 simp only[own,if_true]
 show j6 _ _ (if (n9 d == A3)=true then _ else _) _ _ _
 rw[if_neg (show ¬ ((n9 d == A3)=true) from u7)]
 refine b7 (g0 (b7 (dD hod hdd ?_)))
 rw[if_neg (by simp)]
 refine b7 (g0 (b7 (fO hod hdd ?_)))
 rw[if_neg (by simp)]
 refine g0 ?_
 simp only[show ¬ ((i:Int)<0) from by lia,if_false,Q4,hx]
 refine b7 ?_
 first|refine b7 (G5 tI (g0 (b7 (R1 tI ?_))))|refine b7 (L5 tI (g0 (b7 (R1 tI ?_))))
 show j6 _ _ (jJ (.ref it) 3 (P0 ((i:Int)+1)) >>= _) _ _ ⟨hp,g,dr,tk,os⟩
 refine b7 (D5 hit (by simp) fun h1 he1 b1=>?_)
 replace b1:E7 it hp h1:=b1
 replace he1:Cj h1 it d (i+1) es.size ep ok ov a f:=by
  have e:((i+1:Nat):Int)=(i:Int)+1:=by lia
  unfold Cj;rw[e];simpa [P0] using he1
 have tI1:gv ⟨h1,g,dr,tk,os⟩ (.ref it) "dict_itemiterator":=⟨_,he1,rfl⟩
 refine b7 (F0 (b7 (R1 tI1 (b7 (R1 tI1 ?_)))))
 show j6 _ _ (S9 (.ref it) 6 en.key en.val) _ _ ⟨h1,g,dr,tk,os⟩
 unfold S9
 refine b7 (il ?_)
 have z1:h1.objs.size=hp.objs.size:=b1.1
 have hil:it<hp.objs.size:=i5 hit
 obtain⟨h2,eh2⟩:∃h2,h2=h1.push { cls:=.type "tuple",data:=.seq #[en.key,en.val] }:=⟨_,rfl⟩
 have he2:Cj h2 it d (i+1) es.size ep ok ov a f:=by rw[eh2];exact d9 _ he1
 have t2:h2.get? hp.objs.size=some { cls:=.type "tuple",data:=.seq #[en.key,en.val] }:=by rw[eh2,<- z1];exact j8 _ rfl
 have z2:h2.objs.size=hp.objs.size+1:=by rw[eh2,C5,z1]
 have k2:∀b o,b≠it->hp.get? b=some o->h2.get? b=some o:=fun b o hb e=>by rw[eh2];exact d9 _ (b1.extBut b o hb e)
 show j6 _ _ (R6 (.ref it) >>= _) _ _ ⟨h1.push { cls:=.type "tuple",data:=.seq #[en.key,en.val] },g,dr,tk,os⟩
 rw[z1,<- eh2]
 have a2:h2.get? a=some oa:=k2 a oa hai ha
 refine b7 ?_
 unfold R6
 refine b7 (C4 he2 rfl (x:=P0 a) rfl ?_)
 show j6 _ _ (loadIfAlive ((a:Int).toNat) >>= _) _ _ _
 rw[Q4]
 refine b7 (W.kdx_alive a2 ?_)
 simp only[Option.isNone_some,R9,if_false]
 refine b7 (C4 he2 rfl (x:=.bool f) rfl ?_)
 have fin:∀h3:Heap,Cj h3 it d (i+1) es.size ep ok ov a true->E7 it h2 h3->Q (some (.ref hp.objs.size)) ⟨h3,g,dr,tk,os⟩:=fun h3 he3 b3 =>
  hQ h3 ⟨true,ok,ov,he3⟩ (b3.extBut _ _ (B7 hil) t2) (by show h3.objs.size=hp.objs.size+1;rw[b3.1,z2]) fun b o hb e=>b3.extBut b o hb (k2 b o hb e)
 cases f with
 | true =>
  rw[if_neg (show ¬ ((P3 true != P3 true)=true) from u7)]
  refine g0 ?_
  simp only[R9,if_false]
  exact g0 (g0 ⟨_,rfl,g0 (fin h2 he2 (uX _ _))⟩)
 | false =>
  rw[if_pos (show (P3 false != P3 true)=true from rfl)]
  refine b7 (D5 he2 (by simp) fun h3 he3 b3=>?_)
  refine g0 ?_
  simp only[R9,if_false]
  exact g0 (g0 ⟨_,rfl,g0 (fin h3 he3 b3)⟩)
theorem yw {a:Addr}{Q:Option b9->f6->Prop} (hh:A.handled=none) (hit:Pw s.heap it d i es.size ep a)
  (hod:s.heap.get? d=some od) (hdd:od.data=.dict es ep) (hge:es.size<=i) (hQ:∀h',gE it s.heap h'->Q none { s with heap:=h' }):j6 (r0 prog w) A (Y4 (.ref it)) Q E s:=by
 obtain⟨f,ok,ov,hit⟩:=hit
 have tI:s.TypeIs (.ref it) "dict_itemiterator":=⟨_,hit,rfl⟩
 unfold Y4
 refine b7 (W2 (J1 (name:=M5 "__next__") tI G8 (J7 G8 tI aa ?_ (Z4 _))))
 refine b7 (g0 (b7 (b7 ?_)))
 first|refine b7 (G5 tI (g0 (b7 (dB hit rfl ?_))))|refine b7 (L5 tI (g0 (b7 (dB hit rfl ?_))))
 have own:Q8 "dict_itemiterator"=true:=by decide
 simp only[own,if_true]
 show j6 _ _ (if (n9 d == A3)=true then _ else _) _ _ s
 rw[if_neg (show ¬ ((n9 d == A3)=true) from u7)]
 refine b7 (g0 (b7 (dD hod hdd ?_)))
 rw[if_neg (by simp)]
 refine b7 (g0 (b7 (fO hod hdd ?_)))
 rw[if_neg (by simp)]
 refine g0 ?_
 simp only[show ¬ ((i:Int)<0) from by lia,if_false,Q4,wW hge]
 refine b7 ?_
 first|refine b7 (G5 tI (g0 ?_))|refine b7 (L5 tI (g0 ?_))
 show j6 _ _ (jJ (.ref it) 2 .none >>= _) _ _ s
 refine b7 (T7 hit rfl (by simp) ?_)
 show j6 _ _ (GB (.type "StopIteration") [] >>= _) _ _ _
 refine b7 ?_
 simp only[GB,JM]
 refine b7 (E6 ?_ (by size_fits))
 refine b7 (m:=dG _ _) (wB (a:=A3) (by first|rfl | (simp only[dG];rfl)) ?_)
 refine E6 ?_ (by size_fits)
 simp only[raiseNew]
 refine b7 (Ce ?_)
 rw[show A.in1.handled=none from hh]
 refine b7 (g0 (wA ?_))
 refine b7 (jG (T:="StopIteration") (b:=true) ⟨_,j8 _ rfl,rfl⟩ ni ?_)
 exact g0 (hQ _ (((X2 ..).extBut.push _).push _))
def Na (h:Heap) (it d S:Addr) (i n ep:Nat):Prop:=(i=0/\∃ok ov,bG h it d 0 n ep ok ov) ∨ ∃a oa,Pw h it d i n ep a/\h.get? a=some oa/\a≠it/\a≠S
theorem Na.keep {h h':Heap}{S:Addr}{n:Nat} (x:Na h it d S i n ep) (k:∀b o,b≠S->h.get? b=some o->h'.get? b=some o) (hI:it≠S):Na h' it d S i n ep:=by
 rcases x with ⟨e,ok,ov,q⟩|⟨a,oa,⟨f,ok,ov,q⟩,h1,h2,h3⟩
 ·exact .inl ⟨e,ok,ov,k _ _ hI q⟩
 ·exact .inr ⟨a,oa,⟨f,ok,ov,k _ _ hI q⟩,k _ _ h3 h1,h2,h3⟩
def MW (h:Heap) (es:Array M6) (as:List Addr):Prop:=∀(j:Nat) (a:Addr),as[j]?=some a->∃en,es[j]?=some en/\h.get? a=some { cls:=.type "tuple",data:=.seq #[en.key,en.val] }
theorem yu {R:eW->f6->Prop}{S I:Addr}(hh:A.handled=none) (hSI:S≠I) (hSd:d≠S) (hId:d≠I) (hdd:od.data=.dict es ep) (hn:es.size<=i7) (res:b9) (h0:Heap)
  (hR:∀h' tk acc c as,(∀b o,b≠S->b≠I->h0.get? b=some o->h'.get? b=some o)->h'.get? S=some { cls:=.type "list",dict:=none,data:=.seq acc c,slots:=#[] }->as.length=es.size->as.Nodup->(∀a∈as,h0.objs.size<=a)->MW h' es as->acc.toList=as.map n9->R (.ok (.ret res)) { s with heap:=h',toks:=tk }):
  ∀(k i:Nat) (h:Heap) (tk:Nat) (acc:Array b9) (c:Nat) (as:List Addr),es.size - i=k->i<=es.size->S<h.objs.size->h0.objs.size<=h.objs.size->Na h I d S i es.size ep->h.get? d=some od->h.get? S=some { cls:=.type "list",dict:=none,data:=.seq acc c,slots:=#[] } ->
  as.length=i->as.Nodup->(∀a∈as,h0.objs.size<=a/\a≠S/\a≠I)->MW h es as->acc.toList=as.map n9->(∀b o,b≠S->b≠I->h0.get? b=some o->h.get? b=some o) ->
  U8 (r0 prog w) A (.builtin "list.extend.loop" ⟨[.ref S,.ref I,res],[]⟩) R { s with heap:=h,toks:=tk }:=by
 intro k
 induction k with
 | zero =>
  intro i h tk acc c as hk hi hS hz st hd hSo hl hnd hab hp hac kp
  have e:i=es.size:=by lia
  subst e
  refine cI Jc ?_
  rw[X3 Z8 _]
  show j6 _ A.in1 (Y4 (.ref I) >>= _) _ _ _
  have fin:∀h',gE I h h'->R (.ok (.ret res)) { s with heap:=h',toks:=tk }:=fun h' x=>by
   refine hR h' tk acc c as (fun b o h1 h2 q=>x b o h2 (kp b o h1 h2 q)) (x _ _ hSI hSo) hl hnd (fun a ha=>(hab a ha).1) (fun j a ha=>?_) hac
   obtain⟨en,e1,e2⟩:=hp j a ha
   exact⟨en,e1,x _ _ (hab a (y8 ha)).2.2 e2⟩
  rcases st with ⟨e,ok,ov,q⟩|⟨a,oa,q,_,_,_⟩
  ·exact b7 (pU (s:={ s with heap:=h,toks:=tk }) (A:=A.in1) hh q hd hdd (Az e) fun h' x=>g0 (fin h' x))
  ·exact b7 (yw (s:={ s with heap:=h,toks:=tk }) (A:=A.in1) hh q hd hdd (i9 _) fun h' x=>g0 (fin h' x))
 | succ k ih =>
  intro i h tk acc c as hk hi hS hz st hd hSo hl hnd hab hp hac kp
  have hlt:i<es.size:=by lia
  have hx:es[i]?=some es[i]:=Array.getElem?_eq_getElem hlt
  refine cI Jc ?_
  rw[X3 Z8 _]
  show j6 _ A.in1 (Y4 (.ref I) >>= _) _ _ _
  have iI:I<h.objs.size:=by
   rcases st with ⟨_,_,_,q⟩|⟨_,_,⟨_,_,_,q⟩,_⟩
   ·exact i5 q
   ·exact i5 q
  have go:∀h' h'':Heap,Na h' I d S (i+1) es.size ep->h'.get? h.objs.size=some { cls:=.type "tuple",data:=.seq #[es[i].key,es[i].val] }->h'.objs.size=h.objs.size+1->(∀b o,b≠I->h.get? b=some o->h'.get? b=some o) ->
    (∀b o,b≠S->h'.get? b=some o->h''.get? b=some o)->h''.objs.size=h'.objs.size->(∃c',h''.get? S=some { cls:=.type "list",dict:=none,data:=.seq (acc.push (.ref h.objs.size)) c',slots:=#[] }) ->
    U8 (r0 prog w) A (.builtin "list.extend.loop" ⟨[.ref S,.ref I,res],[]⟩) R { s with heap:=h'',toks:=tk }:=fun h' h'' st' nw zz x y zy ⟨c',hS'⟩=>by
   have nS:h.objs.size≠S:=B7 hS
   have nI:h.objs.size≠I:=B7 iI
   refine ih (i+1) h'' tk (acc.push (.ref h.objs.size)) c' (as++[h.objs.size]) (by lia) hlt (by rw[zy,zz];exact K3 hS) (by rw[zy,zz];exact Nat.le_succ_of_le hz) (st'.keep y hSI.symm) (y _ _ hSd (x _ _ hId hd)) hS' (by rw[y6,hl];rfl) ?_ (fun a ha=>?_) (fun j a ha=>?_) ?_ (fun b o h1 h2 q=>y _ _ h1 (x _ _ h2 (kp b o h1 h2 q)))
   ·rw[List.nodup_append]
    refine⟨hnd,by simp,fun a ha b hb=>?_⟩
    rw[List.mem_singleton.mp hb]
    obtain⟨j,hj⟩:=List.mem_iff_getElem?.mp ha
    obtain⟨en,_,e2⟩:=hp j a hj
    exact m9 (i5 e2)
   ·rcases List.mem_append.mp ha with q|q
    ·exact hab a q
    ·rw[List.mem_singleton.mp q];exact⟨hz,nS,nI⟩
   ·rw[List.getElem?_append] at ha
    split at ha
    ·obtain⟨en,e1,e2⟩:=hp j a ha
     have hm:=hab a (y8 ha)
     exact⟨en,e1,y _ _ hm.2.1 (x _ _ hm.2.2 e2)⟩
    ·rename_i hj
     have hj0:j - as.length=0:=by
      cases hjj:j - as.length with
      | zero=>rfl
      | succ m=>rw[hjj] at ha;cases ha
     rw[hj0] at ha
     cases ha
     have ej:j=i:=by lia
     subst ej
     exact⟨es[j],hx,y _ _ nS nw⟩
   ·rw[Array.toList_push,hac,w5];rfl
  have step:∀h':Heap,Na h' I d S (i+1) es.size ep->h'.get? h.objs.size=some { cls:=.type "tuple",data:=.seq #[es[i].key,es[i].val] }->h'.objs.size=h.objs.size+1->(∀b o,b≠I->h.get? b=some o->h'.get? b=some o) ->
    j6 (r0 prog w) A.in1 (uP S (·.push (.ref h.objs.size))) (fun _ s'=>U8 (r0 prog w) A (.builtin "list.extend.loop" ⟨[.ref S,.ref I,res],[]⟩) R s') (fun e s'=>R (.error e) s') { s with heap:=h',toks:=tk }:=fun h' st' nw zz x=>by
   have hS':=x _ _ hSI hSo
   have hal:acc.size=i:=by rw[<- B8,hac,d8,hl]
   refine wN hS' rfl (go h' _ st' nw zz x (fun b o hb q=>(C6 _ _ (E8 hb)).trans q) (qp ..) ⟨_,J8 _ hS' rfl⟩) (by rw[hal];lia) (by show (acc.push _).size<=i7+1;rw[Array.size_push,hal];lia)
  rcases st with ⟨e,ok,ov,q⟩|⟨a,oa,q,ha,hai,haS⟩
  ·subst e
   refine b7 (mW (s:={ s with heap:=h,toks:=tk }) (A:=A.in1) q hd hdd hx fun h' z1 nw zz x=>?_)
   show j6 _ A.in1 (uP S (·.push (.ref h.objs.size)) >>= _) _ _ _
   exact b7 (B5 (step h' (.inr ⟨h.objs.size,_,⟨false,_,_,z1⟩,nw,B7 iI,B7 hS⟩) nw zz x) (fun _ s' r=>g0 ⟨fg Z8 _,r⟩) fun _ _ r=>r)
  ·refine b7 (vL (s:={ s with heap:=h,toks:=tk }) (A:=A.in1) q ha hai hd hdd hx fun h' z1 nw zz x=>?_)
   show j6 _ A.in1 (uP S (·.push (.ref h.objs.size)) >>= _) _ _ _
   exact b7 (B5 (step h' (.inr ⟨a,oa,z1,x _ _ hai ha,hai,haS⟩) nw zz x) (fun _ s' r=>g0 ⟨fg Z8 _,r⟩) fun _ _ r=>r)
end
section
variable {prog:i8}{w:t9}{A:y7}{E:b9->f6->Prop}{s:f6}{v d:Addr}{od:Obj}{es:Array M6}{ep:Nat}
theorem tZ {R:eW->f6->Prop} (hh:A.handled=none) (hv:s.heap.IsItemsView v d) (hod:s.heap.get? d=some od) (hdd:od.data=.dict es ep) (hn:es.size<=i7) {S:Addr} (hSv:S≠v) (hSd:d≠S) (res:b9) (hS:s.heap.get? S=some { cls:=.type "list",data:=.seq #[] 0 })
  (hR:∀h' tk acc c as,(∀b o,b≠S->s.heap.get? b=some o->h'.get? b=some o)->h'.get? S=some { cls:=.type "list",dict:=none,data:=.seq acc c,slots:=#[] }->as.length=es.size->as.Nodup->(∀a∈as,s.heap.objs.size<=a)->MW h' es as->acc.toList=as.map n9->R (.ok (.ret res)) { s with heap:=h',toks:=tk }):
  j6 (r0 prog w) A.in1 (Z7 (.ref S) (.ref v) res) (fun fin s'=>match fin with | .done f=>R (.ok f) s' | .again c'=>c'.quiet=true/\U8 (r0 prog w) A c' R s') (fun e s'=>R (.error e) s') s:=by
 have lS:S<s.heap.objs.size:=i5 hS
 have ld:d<s.heap.objs.size:=i5 hod
 have run:∀(h:Heap) (c1 tk:Nat),(∀b o,b≠S->(s.heap.push { cls:=.type "dict_itemiterator",data:=.fields #[.none,.bool false,.ref d,.int 0 0,.int es.size 0,.int ep 0,.none,.none] }).get? b=some o->h.get? b=some o)->s.heap.objs.size<=h.objs.size ->
   h.get? S=some { cls:=.type "list",data:=.seq #[] c1 }->U8 (r0 prog w) A (.builtin "list.extend.loop" ⟨[.ref S,.ref s.heap.objs.size,res],[]⟩) R { s with heap:=h,toks:=tk }:=by
  intro h c1 tk hk hz hS1
  have hI:=hk s.heap.objs.size _ (B7 lS) (j8 _ rfl)
  exact yu (s:=s) hh (m9 lS) hSd (m9 ld) hdd hn res s.heap (fun h' tk' acc c as k1 k2 k3 k4 k5 k6 k7=>hR h' tk' acc c as (fun b o hb e=>k1 b o hb (m9 (i5 e)) e) k2 k3 k4 k5 k6 k7)
   es.size 0 h tk #[] c1 [] (PM _) (A7 _) (i5 hS1) hz (.inl ⟨rfl,.none,.none,hI⟩) (hk d _ hSd (d9 _ hod)) hS1 rfl MJ (fun _ ha=>nomatch ha) (fun j a hj=>by simp at hj) rfl (fun b o hb _ e=>hk b o hb (d9 _ e))
 unfold Z7
 refine b7 (wpAny_typeOf (T:="dict_items") hv.typeIs ?_)
 have c1:nN (.ref S) (.ref v)=false:=by simp[nN,hSv]
 have c2:(fH "dict_items" == fH "list")=false:=by decide
 have c3:(fH "dict_items" == fH "tuple")=false:=by decide
 simp only[c1,c2,c3,Nu,R9,if_false]
 refine b7 (mV hv hod hdd ?_)
 have hS1:=d9 { cls:=.type "dict_itemiterator",data:=.fields #[.none,.bool false,.ref d,.int 0 0,.int es.size 0,.int ep 0,.none,.none] } hS
 refine b7 (F0 (W.kdx_hint (let ⟨o,ho,hc,_⟩:=hv;⟨o,d9 _ ho,hc⟩) ?_))
 refine wpAny_ite_split (fun _=>?_) (fun _=>g0 ⟨fg Z8 _,run _ 0 _ (fun b o _ e=>e) (by show s.heap.objs.size<=(s.heap.push _).objs.size;rw[C5];exact V5 _) hS1⟩)
 refine b7 (kC (b7 ?_))
 show j6 _ _ (uP S (·.push .none) >>= fun _=>uP S (·.pop)) _ _ _
 refine b7 (wN hS1 rfl ?_)
 have hS2:=J8 (Y7 (·.push A3)) hS1 rfl
 refine wN (hz:=by seq_fits) hS2 rfl ?_
 have hS3:=J8 (Y7 (·.pop)) hS2 rfl
 refine g0 ⟨fg Z8 _,run _ _ _ (fun b o hb e=>(C6 _ _ (E8 hb)).trans ((C6 _ _ (E8 hb)).trans e)) ?_ hS3⟩
 show s.heap.objs.size<=(((s.heap.push _).update S _).update S _).objs.size
 rw[qp,qp,C5];exact V5 _
theorem qK {Q:List b9->f6->Prop} (hh:A.handled=none) (hv:s.heap.IsItemsView v d) (hod:s.heap.get? d=some od) (hdd:od.data=.dict es ep) (hn:es.size<=i7)
  (h:∀(h':Heap) (tk:Nat) (as:List Addr),s.heap.objs.size<h'.objs.size->(∀b o,s.heap.get? b=some o->h'.get? b=some o)->as.length=es.size->as.Nodup->(∀a∈as,s.heap.objs.size<=a)->MW h' es as->Q (as.map n9) { s with heap:=h',toks:=tk }):
  j6 (r0 prog w) A (Pf (.ref v)) Q E s:=by
 have lv:v<s.heap.objs.size:=let ⟨_,ho,_⟩:=hv;i5 ho
 have ld:d<s.heap.objs.size:=i5 hod
 unfold Pf
 refine b7 (wpAny_runValue (cI Gj ?_))
 rw[X3 Gi _]
 show j6 _ A.in1 (GA [] >>= fun l=>again (.builtin "list.__iadd__" ⟨[l,.ref v],[]⟩)) _ _ s
 refine b7 (E6 (g0 ⟨fg iA _,cI MM ?_⟩))
 rw[X3 iA _]
 have hS1:(s.heap.push { cls:=.type "list",data:=.seq ([]:List b9).toArray }).get? s.heap.objs.size=some { cls:=.type "list",data:=.seq #[] }:=j8 _ rfl
 have hz1:(s.heap.push { cls:=.type "list",data:=.seq ([]:List b9).toArray }).objs.size=s.heap.objs.size+1:=C5 ..
 show j6 _ A.in1 (Z7 (.ref s.heap.objs.size) (.ref v) (.ref s.heap.objs.size)) _ _ _
 have key:=tZ (prog:=prog) (w:=w) (A:=A) (s:={ s with heap:=s.heap.push { cls:=.type "list",data:=.seq ([]:List b9).toArray } }) (es:=es) (ep:=ep)
  (R:=fun (q:eW) (s':f6)=>∃(h':Heap) (tk:Nat) (acc':Array b9) (c':Nat) (as:List Addr),q=.ok (.ret (.ref s.heap.objs.size))/\s'={ s with heap:=h',toks:=tk } /\
   (∀b o,s.heap.get? b=some o->h'.get? b=some o)/\h'.get? s.heap.objs.size=some { cls:=.type "list",dict:=none,data:=.seq acc' c',slots:=#[] }/\as.length=es.size/\as.Nodup/\(∀a∈as,s.heap.objs.size<=a)/\MW h' es as/\acc'.toList=as.map n9)
  hh (let ⟨o,ho,x⟩:=hv;⟨o,d9 _ ho,x⟩) (d9 _ hod) hdd hn (B7 lv) (m9 ld) (.ref s.heap.objs.size) hS1
  (fun h' tk acc' c' as hk hS' hl hnd hab hG hacc=>⟨h',tk,acc',c',as,rfl,rfl,fun b o e=>hk b o (m9 (i5 e)) (d9 _ e),hS',hl,hnd,(fun a ha=>j9 (by rw[hz1];exact V5 _) (hab a ha)),hG,hacc⟩)
 have out:∀(h':Heap) (tk:Nat) (acc':Array b9) (c':Nat) (as:List Addr),(∀b o,s.heap.get? b=some o->h'.get? b=some o)->h'.get? s.heap.objs.size=some { cls:=.type "list",dict:=none,data:=.seq acc' c',slots:=#[] }->as.length=es.size->as.Nodup->(∀a∈as,s.heap.objs.size<=a)->MW h' es as->acc'.toList=as.map n9 ->
   j6 (r0 prog w) A (do
    let o <- load s.heap.objs.size
    match o.data with
    | .seq xs _=>pure xs.toList
    | _=>unsupported "internal:collect") Q E { s with heap:=h',toks:=tk }:=fun h' tk acc' c' as k1 k2 k3 k4 k5 k6 k7=>by
  refine b7 (Nc k2 (g0 ?_))
  show Q acc'.toList _
  rw[k7]
  exact h h' tk as (i5 k2) k1 k3 k4 k5 k6
 refine B5 key (fun fin s' x=>?_) fun e s' x=>?_
 ·cases fin with
  | done f =>
   obtain⟨h',tk,acc',c',as,e,rfl,k1,k2,k3,k4,k5,k6,k7⟩:=x
   cases e
   exact out h' tk acc' c' as k1 k2 k3 k4 k5 k6 k7
  | again c1 =>
   refine⟨x.1,aE x.2 fun q s2 y=>?_⟩
   obtain⟨h',tk,acc',c',as,rfl,rfl,k1,k2,k3,k4,k5,k6,k7⟩:=y
   exact out h' tk acc' c' as k1 k2 k3 k4 k5 k6 k7
 ·obtain⟨_,_,_,_,_,e',_⟩:=x
  cases e'
end
section
variable {prog:i8}{w:t9}{A:y7}{E:b9->f6->Prop}{s:f6}
def eQ (h:Heap) (v:b9):Prop:=∃(a:Addr) (us:List b9) (ns:List Int),v=.ref a/\IsTup h a us.toArray/\cN us ns
theorem pV:∀{us:List b9}{ns:List Int}{j:Nat}{v:b9},cN us ns->us[j]?=some v->∃n t,v=kz n t
 | _,_,0,v,.cons _ _ _,e=>by cases e;exact⟨_,_,rfl⟩
 | _,_,j+1,v,.cons _ _ t,e=>pV (j:=j) t (by simpa using e)
theorem eQ.eq {p q:b9} (h1:eQ s.heap p) (h2:eQ s.heap q) (hu:A.units<dj):∃k,lE A s p q k:=by
 obtain⟨a,us,ns,rfl,⟨oa,ha,hca,na,hda⟩,i1⟩:=h1
 obtain⟨b,vs,ms,rfl,⟨ob,hb,hcb,nb,hdb⟩,i2⟩:=h2
 by_cases hab:a=b
 ·subst hab;exact⟨true,Aw _⟩
 ·refine⟨_,SeqAt.EqAt.of_refs hab (SeqAt.RcAt.tuples (e:=fun j=>match us[j]?,vs[j]? with|some (.int x _),some (.int y _)=>x == y|_,_=>false) ⟨oa,ha,hca,na,hda⟩ ⟨ob,hb,hcb,nb,hdb⟩ hu fun j h1 h2=>?_)⟩
  have h1':j<us.length:=by simpa using h1
  have h2':j<vs.length:=by simpa using h2
  obtain⟨x,t,ex⟩:=pV i1 (i6 h1')
  obtain⟨y,u,ey⟩:=pV i2 (i6 h2')
  have e1:us.toArray[j]=.int x t:=by rw[BZ];exact ex
  have e2:vs.toArray[j]=.int y u:=by rw[BZ];exact ey
  rw[e1,e2,i6 h1',i6 h2',ex,ey]
  exact jB x t y u
theorem eQ.lt {p q:b9} (h1:eQ s.heap p) (h2:eQ s.heap q) (hu:A.units<dj) {Q:b9->f6->Prop} (hq:∀b,Q (.bool b) s):j6 (r0 prog w) A (M4 .Lt p q) Q E s:=by
 obtain⟨a,us,ns,rfl,ta,i1⟩:=h1
 obtain⟨b,vs,ms,rfl,tb,i2⟩:=h2
 exact HT.ym ta tb i1 i2 hu (hq _)
theorem HG {x y:Addr}{p1 p2 q1 q2:b9}{n k:Nat}{ox oy:Obj}{Q:Bool->f6->Prop} (hx:s.heap.get? x=some ox) (dx:ox.data=.seq #[p1,q1] n) (hy:s.heap.get? y=some oy) (dy:oy.data=.seq #[p2,q2] k)
  (h1:eQ s.heap p1) (h2:eQ s.heap p2) (h3:eQ s.heap q1) (h4:eQ s.heap q2) (hu:A.units<dj) (hq:∀b,Q b s):j6 (r0 prog w) A (keyLt' (tuples' false) (.ref x) (.ref y)) Q E s:=by
 refine W.kat_lt hx dx hy dy ?_
 obtain⟨k1,e1⟩:=eQ.eq (A:=A) h1 h2 hu
 obtain⟨k2,e2⟩:=eQ.eq (A:=A) h3 h4 hu
 have one:∀{p q:b9}{i:Nat},eQ s.heap p->eQ s.heap q->j6 (r0 prog w) A (oneLt' (false&&i == 0) p q) Q (fun _ _=>False) s:=fun {p q i} a b=>by
  rw[V8]
  exact W.kat_one p q (eQ.lt a b hu fun b=>hq b)
 refine W.kat_cons (e1 prog w _ _ (W.kat_go (fun _=>W.kat_yes (W.kat_cons (e2 prog w _ _ (W.kat_go (fun _=>W.kat_yes (W.kat_nil (hq _))) fun _=>W.kat_no (one h3 h4))))) fun _=>W.kat_no (one h1 h2)))
end
section
variable {prog:i8}{w:t9}{A:y7}{E:b9->f6->Prop}{s:f6}
theorem xS:∀vs:List b9,(O5 vs.length).map (fun i=>vs.getD i A3)=vs:=fun vs=>by
 apply List.ext_getElem
 ·simp
 ·intro i h1 h2
  simp[h2]
variable {vs:List b9}
theorem Es {p:Array Nat} (h:mz vs.length p):(p.toList.map fun i=>vs.getD i A3).Perm vs:=by
 have:=h.map (fun i=>vs.getD i A3)
 rw[xS] at this
 exact this
noncomputable def Rc (An:Nat->Nat->Bool->Prop) {α:Type}:W.KasT α->α->Prop
 | .ret a,x=>x=a
 | .ask i j k,x=>∃b,An i j b/\Rc An (k b) x
theorem Rc.uniq {An:Nat->Nat->Bool->Prop}{α:Type} (hA:∀i j b b',An i j b->An i j b'->b=b'):∀{t:W.KasT α}{x y:α},Rc An t x->Rc An t y->x=y
 | .ret _,_,_,h1,h2=>(show _=_ from h1).trans (show _=_ from h2).symm
 | .ask i j k,_,_,⟨b,hb,h1⟩,⟨b',hb',h2⟩=>Rc.uniq hA (t:=k b) h1 (by rw[hA i j b b' hb hb'];exact h2)
theorem Lv.wpA {n:Nat}{α:Type}{Pr:α->Prop}{An:Nat->Nat->Bool->Prop}{cmp:Nat->Nat->(Bool->f6->Prop)->f6->Prop}{S:f6->Prop}{Q:α->f6->Prop}
  (hc:∀i j C s,i<n->j<n->S s->(∀b s',An i j b->S s'->C b s')->cmp i j C s):∀{t:W.KasT α}{s:f6},(∀a s,Pr a->Rc An t a->S s->Q a s)->Lv n Pr t->S s->t.kasWp cmp Q s
 | .ret a,s,hq,h,hs=>hq a s h rfl hs
 | .ask i j k,s,hq,h,hs=>hc i j _ s h.1 h.2.1 hs fun b s' hb hs'=>Lv.wpA hc (t:=k b) (fun a s hp hr hS=>hq a s hp ⟨b,hb,hr⟩ hS) (h.2.2 b) hs'
def RcL (An:Nat->Nat->Bool->Prop) (vs vs':List b9):Prop:=(vs.length<2/\vs'=vs) ∨ 2<=vs.length/\∃p:Array Nat,mz vs.length p/\Rc An (gy vs.length) p/\vs'=p.toList.map fun i=>vs.getD i A3
theorem rj {An:Nat->Nat->Bool->Prop}{B:Addr}{c:Nat}{P:PySem.Fin->f6->Prop} (hB:s.heap.get? B=some (aD "list" vs.toArray c)) (h64:vs.length<64)
  (hk:2<=vs.length->∀h1,(∀b o,b≠B->s.heap.get? b=some o->h1.get? b=some o) ->
   j6 (r0 prog w) A (keyKind' vs.toArray) (fun κ s'=>s'={ s with heap:=h1 }/\∀i j C,i<vs.length->j<vs.length->(∀b,An i j b->C b { s with heap:=h1 })->sk prog w A κ vs i j C { s with heap:=h1 }) (fun _ _=>False) { s with heap:=h1 })
  (hP:∀h' vs' c',vs'.Perm vs->RcL An vs vs'->(∀b o,b≠B->s.heap.get? b=some o->h'.get? b=some o)->h'.get? B=some (aD "list" (bg vs') c')->P (.done (.ret .none)) { s with heap:=h' }):j6 (r0 prog w) A (gF.«list.sort» ⟨[.ref B],[]⟩) P E s:=by
 obtain⟨e1,hB1⟩:∃e1,(s.heap.update B (Y7 fun _=>(#[]:Array b9))).get? B=some (aD "list" #[] e1):=⟨_,get?_update_seq hB fun _=>#[]⟩
 have b1:=X2 s.heap B (Y7 fun _=>(#[]:Array b9))
 obtain⟨h3,eh3⟩:∃h3,h3=((s.heap.update B (Y7 fun _=>(#[]:Array b9))).push (aD "tuple" vs.toArray 0)).push (aD "list" #[] 0):=⟨_,rfl⟩
 have hB3:h3.get? B=some (aD "list" #[] e1):=by rw[eh3];exact d9 _ (d9 _ hB1)
 have k3:∀b o,b≠B->s.heap.get? b=some o->h3.get? b=some o:=fun b o hb q=>by rw[eh3];exact d9 _ (d9 _ (b1.extBut b o hb q))
 rw[list_sort_plain]
 refine b7 (listItems_at hB rfl (b7 (listUpdate_at hB rfl ?_ (by rw[A0,X0];lia) (A7 _))))
 refine b7 (seqEpoch_at hB1 rfl (b7 (il ?_ (by show vs.length<=_;rw[X0];lia))))
 refine b7 (qj (F0 ?_) (A7 _))
 show j6 (r0 prog w) A _ P E { s with heap:=((s.heap.update B (Y7 fun _=>(#[]:Array b9))).push (aD "tuple" vs.toArray 0)).push (aD "list" #[] 0) }
 rw[<- eh3]
 dsimp only
 have fin:∀(st:SortSt) (out:List b9),(arrOf st).map (·.2)=bg out->out.length=vs.length->Am st=none->out.Perm vs->RcL An vs out ->
   j6 (r0 prog w) A (do
    let sorted:=(arrOf st).map (·.2)
    let touched:=(<- seqEpoch B) != e1
    Builtin.List.listUpdate (.ref B) fun _=>sorted
    if let some e:=Am st then rule "list.sort.comparison-raised";throw e
    if touched then rule "list.sort.modified";raiseError "ValueError" "list modified during sort"
    ret .none) P E { s with heap:=h3 }:=fun st out ho hl hf hp hrc=>by
  rw[ho]
  have sz:(bg out).size<=i7:=by rw[A0,hl,X0];lia
  obtain⟨c2,hc2⟩:∃c2,(h3.update B (Y7 fun _=>bg out)).get? B=some (aD "list" (bg out) c2):=⟨_,get?_update_seq hB3 fun _=>bg out⟩
  refine b7 (seqEpoch_at hB3 rfl (b7 (listUpdate_at hB3 rfl ?_ (A7 _) (j9 sz (V5 _)))))
  rw[hf]
  simp only[bne_self_eq_false,R9,if_false]
  exact g0 (hP _ out c2 hp hrc (fun b o hb q=>(X2 h3 B _).extBut b o hb (k3 b o hb q)) hc2)
 by_cases h2:2<=vs.length
 ·have hn2:¬ vs.toArray.size<2:=by rw[A0];lia
  rw[if_neg hn2,if_neg hn2]
  refine b7 (B5 (hk h2 h3 k3) (fun κ s0 hh=>?_) fun _ _ x=>x.elim)
  obtain⟨rfl,ask⟩:=hh
  have tree:(gy vs.length).kasWp (sk prog w A κ vs) (fun p s'=>s'={ s with heap:=h3 }/\mz vs.length p/\Rc An (gy vs.length) p) { s with heap:=h3 } :=
   Lv.wpA (An:=An) (S:=fun s'=>s'={ s with heap:=h3 }) (Pr:=mz vs.length) (fun i j C s' hi hj hs hC=>by subst hs;exact ask i j C hi hj fun b hb=>hC b _ hb rfl) (fun p s' hp hr hs=>⟨hs,hp,hr⟩) (HU (by lia)) rfl
  refine b7 (B5 (W.kat_run (Q:=fun st' s'=>s'={ s with heap:=h3 }/\∃p:Array Nat,(mz vs.length p/\Rc An (gy vs.length) p)/\p.size=vs.length/\arrOf st'=p.map (W.kas_item (vs.toArray.zip vs.toArray))/\Am st'=none) rfl h2 h64 (fun p' st' s' a1 a2 a3 a4=>⟨a4.1,p',a4.2,a1,a2,a3⟩) tree) ?_ fun _ _ e=>e)
  rintro⟨⟨⟩,st'⟩ s' ⟨rfl,p,hp,hps,har,hf⟩
  dsimp only
  exact fin st' _ (W.kat_snds rfl har) (by rw[d8,B8,hps]) hf (Es hp.1) (.inr ⟨h2,p,hp.1,hp.2,rfl⟩)
 ·have hn2:vs.toArray.size<2:=by rw[A0];lia
  rw[if_pos hn2,if_pos hn2]
  refine b7 (g0 (b7 ?_))
  rw[StateT.run_pure]
  refine g0 ?_
  exact fin _ vs (by
   show ((vs.toArray.zip vs.toArray).map (·.2))=vs.toArray
   apply Array.toList_inj.mp
   simp[Jb]) rfl rfl (Cs _) (.inl ⟨by lia,rfl⟩)
theorem CZ {B:Addr}{c:Nat}{P:PySem.Fin->f6->Prop} (hB:s.heap.get? B=some (aD "list" vs.toArray c)) (h64:vs.length<64)
  (hk:2<=vs.length->∀h1,(∀b o,b≠B->s.heap.get? b=some o->h1.get? b=some o) ->
   j6 (r0 prog w) A (keyKind' vs.toArray) (fun κ s'=>s'={ s with heap:=h1 }/\∀i j C,i<vs.length->j<vs.length->(∀b,C b { s with heap:=h1 })->sk prog w A κ vs i j C { s with heap:=h1 }) (fun _ _=>False) { s with heap:=h1 })
  (hP:∀h' vs' c',vs'.Perm vs->(∀b o,b≠B->s.heap.get? b=some o->h'.get? b=some o)->h'.get? B=some (aD "list" (bg vs') c')->P (.done (.ret .none)) { s with heap:=h' }):j6 (r0 prog w) A (gF.«list.sort» ⟨[.ref B],[]⟩) P E s :=
 rj (An:=fun _ _ _=>True) hB h64 (fun h2 h1 kp=>B5 (hk h2 h1 kp) (fun κ s' h=>⟨h.1,fun i j C hi hj hC=>h.2 i j C hi hj fun b=>hC b trivial⟩) fun _ _ x=>x) (fun h' vs' c' hp _=>hP h' vs' c' hp)
end
theorem kS {α β:Type}{f:α->β}:∀{l:List β}{m:List α},l.Perm (m.map f)->∃m':List α,m'.Perm m/\l=m'.map f
 | [],m,h=>by
  have e:m.map f=[]:=h.nil_eq.symm
  rw[Cp] at e
  exact⟨[],by rw[e],rfl⟩
 | b::l,m,h=>by
  have hb:b∈m.map f:=h.mem_iff.mp f9
  obtain⟨x,hx,e⟩:=List.mem_map.mp hb
  obtain⟨p,q,em⟩:=List.append_of_mem hx
  subst em e
  have h2:(f x::l).Perm (f x::(p++q).map f):=h.trans (by
   rw[w5,r9,w5]
   exact List.perm_middle)
  obtain⟨m',h3,e3⟩:=kS (m:=p++q) h2.cons_inv
  exact⟨x::m',(h3.cons x).trans List.perm_middle.symm,by rw[e3];rfl⟩
noncomputable def Mw (H:Hp):List (List O4 × V)->List V->Prop
 | [],[]=>True
 | (k,x)::kvs,y::ys=>(∃p ka,y=.ref p/\H p=some (.tup [.ref ka,x])/\H ka=some (.tup (k.map kV)))/\Mw H kvs ys
 | _,_=>False
theorem Mw.mk {H:Hp}:∀{L:List (Addr × (List O4 × V))},(∀t∈L,∃ka,H t.1=some (.tup [.ref ka,t.2.2])/\H ka=some (.tup (t.2.1.map kV)))->Mw H (L.map (·.2)) (L.map fun t=>V.ref t.1)
 | [],_=>trivial
 | (a,(k,x))::L,h=>⟨let ⟨ka,e1,e2⟩:=h _ f9;⟨a,ka,rfl,e1,e2⟩,Mw.mk fun t ht=>h t (i4 _ ht)⟩
noncomputable def mZ (v d:Addr):HO:=.ext fun h=>h.get? v=some { cls:=.type "dict_items",data:=.fields #[.ref d] }
section
variable {X:Cx}{pins:List (Addr × Obj)}{σ:St}{H:Hp}{s:f6}
theorem C0.lays {N:Hp}{h':Heap}{t':Nat} (I:C0 X pins σ H s) (k:∀b u,s.heap.get? b=some u->h'.get? b=some u)
  (ok:∀b o,s.heap.objs.size<=b->N b=some o->P2 X.prog X.w (fun b=>if b<s.heap.objs.size then H b else N b) h' b o):
  C0 X pins σ (fun b=>if b<s.heap.objs.size then H b else N b) { s with heap:=h',toks:=t' }:=by
 have lo:∀b o,H b=some o->(fun b=>if b<s.heap.objs.size then H b else N b) b=some o:=fun b o e=>by
  show (if b<s.heap.objs.size then H b else N b)=some o
  rw[if_pos (I.hok.lt e)];exact e
 refine I.un ⟨fun b o q _ _ _=>k b o q,fun b o q _ _ _=>⟨o.slots,k b o q⟩,fun b o q n _=>?_,fun b o q _=>⟨o,k b o q⟩,fun b xs q=>lo b _ q,fun b o u q=>lo b _ q,fun b ps q=>⟨#[],(lo b _ q).trans (by simp)⟩⟩ fun b o e=>?_
 ·show (if b<s.heap.objs.size then H b else N b)=none
  rw[if_pos (i5 q)];exact n
 ·by_cases hb:b<s.heap.objs.size
  ·have e':H b=some o:=by
    have:(if b<s.heap.objs.size then H b else N b)=some o:=e
    rwa [if_pos hb] at this
   exact(I.hok b o e').stay (fun c v _ q=>k c v q) (fun c q=>lo c _ q) fun c xs q=>lo c _ q
  ·have e':N b=some o:=by
    have:(if b<s.heap.objs.size then H b else N b)=some o:=e
    rwa [if_neg hb] at this
   exact ok b o (JO hb) e'
def Kg (td:TE):TE:=fun σ H Q=>td σ H fun x H1=>∃d kvs,x=.ref d/\H1 d=some (.dT kvs)/\∀v,H1 v=none->Q (.ref v) (A6 H1 v (mZ v d))
theorem Ef {e:Expr}{apos cpos:Pos}{td:TE} (ho:PE X e td) (hbase:cz e "items" X.env (eval e X.env)=eval e X.env:=by rfl) (hline:(apos.endLine == cpos.line)=true:=by rfl):
  PE X (.Call (.Attribute e "items" apos) [] [] cpos) (Kg td):=by
 intro pins s σ H Q I h
 refine Gd hbase hline (P1 (ho pins s σ H _ I h) fun v s1 ⟨x,H1,I1,r1,d,kvs,ex,hd,q⟩=>?_)
 subst ex
 cases r1
 obtain⟨_,hsys,_,_,o,_,_,hob,hex,_⟩:=(show P2 X.prog X.w H1 s1.heap d (.dT kvs) from I1.hok d _ hd)
 refine⟨"dict","dict.items",bK,gz,uC,⟨o,hob,hex.1⟩,fun a e=>by cases e;exact⟨o,hob,hex.2.1⟩,ae rfl (BV ?_)⟩
 refine pT hsys ⟨o,hob,hex.1⟩ ?_
 have hf:H1 s1.heap.objs.size=none:=I1.hok.fresh (i9 _)
 refine⟨.ref s1.heap.objs.size,_,I1.laid (t':=s1.toks) (o:=mZ s1.heap.objs.size d) (fun b o e=>d9 _ e) (i9 _) ?_,rfl,q _ hf⟩
 exact⟨j8 _ rfl,⟨_,j8 _ rfl⟩,fun h1 h2 a b=>b _ a⟩
theorem pH {β:Type}:∀{as:List Addr}{bs:List β}{j:Nat}{a:Addr}{b:β},as.Nodup->as[j]?=some a->bs[j]?=some b->(as.zip bs).lookup a=some b
 | [],_,j,a,b,_,h,_=>by simp at h
 | x::as,[],j,a,b,_,_,h=>by simp at h
 | x::as,y::bs,0,a,b,_,h1,h2=>by
  simp at h1 h2
  subst h1 h2
  rw[bT,F8];simp
 | x::as,y::bs,j+1,a,b,hn,h1,h2=>by
  rw[bN] at hn
  have ha:a∈as:=y8 (show as[j]?=some a by simpa using h1)
  have ne:a≠x:=fun e=>hn.1 (e ▸ ha)
  rw[bT,F8,show (a == x)=false from beq_eq_false_iff_ne.mpr ne]
  exact pH hn.2 (by simpa using h1) (by simpa using h2)
theorem pI {β:Type}:∀{as:List Addr}{bs:List β}{a:Addr}{b:β},(as.zip bs).lookup a=some b->∃j:Nat,as[j]?=some a/\bs[j]?=some b
 | [],_,a,b,h=>by simp at h
 | x::as,[],a,b,h=>by simp at h
 | x::as,y::bs,a,b,h=>by
  rw[bT,F8] at h
  by_cases e:a=x
  ·subst e
   simp at h
   exact⟨0,rfl,by rw[h];rfl⟩
  ·rw[show (a == x)=false from beq_eq_false_iff_ne.mpr e] at h
   obtain⟨j,h1,h2⟩:=pI h
   exact⟨j+1,by simpa using h1,by simpa using h2⟩
noncomputable def La:List V->Hp->VK->Prop:=fun xs H Q=>∃v d kvs,xs=[.ref v]/\H v=some (mZ v d)/\H d=some (.dT kvs)/\kvs.length<64 /\
 (∀kx∈kvs,(∃ns:List Int,kx.1=ns.map cU)/\∃(q:Addr) (ms:List Int),kx.2=.ref q/\H q=some (.tup (ms.map V.int))) /\
 ∀(D:Addr) (ys:List V) (kvs':List (List O4 × V)) (H':Hp),kvs'.Perm kvs->n8 H H'->H' D=some (.lst ys)->Mw H' kvs' ys->Q (.ref D) H'
theorem Ih (ns:List Int):(ns.map (cU:Int->O4)).map kV=ns.map V.int:=by rw[cJ];rfl
theorem zP {P:i8}{w:t9}{h:Heap}{q:Addr}{ms:List Int} (ok:bU P w H h) (e:H q=some (.tup (ms.map V.int))):eQ h (.ref q):=by
 obtain⟨_,its,r,t⟩:=(show P2 P w H h q (.tup (ms.map V.int)) from ok q _ e)
 exact⟨q,its,ms,rfl,t,yx r⟩
theorem eQ.keep {h h':Heap}{v:b9} (x:eQ h v) (k:∀a o,v=.ref a->h.get? a=some o->h'.get? a=some o):eQ h' v:=by
 obtain⟨a,us,ns,e,⟨o,ho,r⟩,i⟩:=x
 exact⟨a,us,ns,e,⟨o,k a o e ho,r⟩,i⟩
theorem pQ {h:Heap}:∀{as:List Addr}{fs:List b9},(∀(j:Nat) (a:Addr),as[j]?=some a->∃f q,fs[j]?=some f/\h.get? a=some { cls:=.type "tuple",data:=.seq #[f,q] })->as.length=fs.length->W.KatTups h (as.map n9) fs
 | [],[],_,_=>W.KatTups.nil
 | a::as,f::fs,hh,hl=>by
  obtain⟨f',q,e1,e2⟩:=hh 0 a rfl
  cases e1
  exact W.KatTups.cons e2 rfl rfl rfl (pQ (fun j b hb=>by
   obtain⟨f,q,e1,e2⟩:=hh (j+1) b (by simpa using hb)
   exact⟨f,q,by simpa using e1,e2⟩) (by simpa using hl))
 | [],_::_,_,hl=>by simp at hl
 | _::_,[],_,hl=>by simp at hl
theorem yE (hc:X.calm=true) (hu:X.A.units+64<dj):bB X (.builtin "sorted") La:=by
 intro pins s σ H xs us Q I rr h
 obtain⟨v,d,kvs,rfl,hv,hd,h64,hkx,q⟩:=h
 cases rr with
 | cons r1 rr =>
  cases rr
  cases r1
  have hh:X.A.handled=none:=I.ok.hd hc
  obtain⟨hvw,_,_⟩:=(show P2 X.prog X.w H s.heap v (mZ v d) from I.hok v _ hv)
  obtain⟨_,_,xs,rel,o,es,ep,ho,hex,hdd,hes,_⟩:=(show P2 X.prog X.w H s.heap d (.dT kvs) from I.hok d _ hd)
  have hsz:es.size=kvs.length:=by rw[<- B8,hes,d8];exact(dm rel).symm
  have hent:∀(j:Nat) (k:List O4) (x:V),kvs[j]?=some (k,x)->∃(ka:Addr) (en:M6),es[j]?=some en/\en.key=.ref ka/\H ka=some (.tup (k.map kV))/\G9 x en.val:=fun j k x hj=>by
   obtain⟨qq,hq,f1,f2,f3⟩:=Paired.get rel hj
   refine⟨qq.2.1,Ng (bL (O7 X.prog X.w)) qq,?_,rfl,f2,f3⟩
   rw[<- O8,hes,v8,hq];rfl
  have sl:i7=i7:=rfl
  refine uJ kind_sorted plain_sorted entry_sorted (args_sorted1 _) ?_
  unfold gF.«sorted»
  refine b7 (m:=checkCount "sorted" 1 1 _) (g0 ?_)
  refine b7 (qK (A:=X.A.in1) hh ⟨_,hvw,rfl,rfl⟩ ho hdd (by rw[hsz,X0];lia) fun h' tk as hzz k1 hl hnd hab hG=>?_)
  have hl':as.length=kvs.length:=by rw[hl,hsz]
  refine b7 (qj ?_ (by rw[d8,hl',X0];lia))
  have hB:(h'.push (aD "list" (as.map n9).toArray 0)).get? h'.objs.size=some (aD "list" (as.map n9).toArray 0):=j8 _ rfl
  have k2:∀b o,s.heap.get? b=some o->(h'.push (aD "list" (as.map n9).toArray 0)).get? b=some o:=fun b o e=>d9 _ (k1 b o e)
  have alt:∀a∈as,a<h'.objs.size:=fun a ha=>by
   obtain⟨j,hj⟩:=List.mem_iff_getElem?.mp ha
   obtain⟨en,_,e2⟩:=hG j a hj
   exact i5 e2
  show j6 _ _ _ _ _ { s with heap:=h'.push (aD "list" (as.map n9).toArray 0),toks:=tk }
  have nB:∀b,b<h'.objs.size->b≠h'.objs.size:=fun b hb=>m9 hb
  refine b7 (F0 (J7 slot_list_sort ⟨_,hB,rfl⟩ entry_list_sort ?body (args_list_sort _)))
  have ent:∀(j:Nat) (a:Addr),as[j]?=some a->∃(en:M6) (k:List O4) (x:V) (ka:Addr),es[j]?=some en/\kvs[j]?=some (k,x)/\h'.get? a=some { cls:=.type "tuple",data:=.seq #[en.key,en.val] }/\en.key=.ref ka/\H ka=some (.tup (k.map kV))/\G9 x en.val/\eQ s.heap en.key/\eQ s.heap en.val:=fun j a ha=>by
   obtain⟨en,e1,e2⟩:=hG j a ha
   have hj:j<kvs.length:=by rw[<- hl'];exact(List.getElem?_eq_some_iff.mp ha).1
   obtain⟨ka,en',e3,e4,e5,e6⟩:=hent j (kvs[j]).1 (kvs[j]).2 (i6 hj)
   rw[e1] at e3
   cases e3
   obtain⟨⟨ns,en1⟩,qa,ms,en2,hq⟩:=hkx kvs[j] (O0 hj)
   refine⟨en,_,_,ka,e1,i6 hj,e2,e4,e5,e6,?_,?_⟩
   ·rw[e4]
    rw[en1,Ih] at e5
    exact zP I.hok e5
   ·rw[en2] at e6
    rw[show en.val=.ref qa from e6]
    exact zP I.hok hq
  have lt1:∀b o,s.heap.get? b=some o->b≠h'.objs.size:=fun b o e=>m9 (PP (i5 e) hzz)
  refine CZ (s:={ s with heap:=h'.push (aD "list" (as.map n9).toArray 0),toks:=tk }) (vs:=as.map n9) hB (by rw[d8,hl'];exact h64) (fun h2 h1 kp=>?_) (fun h5 vs' c' hp kp hB5=>?_)
  ·have k4:∀b o,s.heap.get? b=some o->h1.get? b=some o:=fun b o e=>kp b o (lt1 b o e) (k2 b o e)
   have ent1:∀(j:Nat) (a:Addr),as[j]?=some a->∃en:M6,es[j]?=some en/\h1.get? a=some { cls:=.type "tuple",data:=.seq #[en.key,en.val] }/\eQ h1 en.key/\eQ h1 en.val:=fun j a ha=>by
    obtain⟨en,k,x,ka,e1,_,e2,_,_,_,t1,t2⟩:=ent j a ha
    exact⟨en,e1,kp _ _ (nB a (alt a (y8 ha))) (d9 _ e2),t1.keep fun b o _ q=>k4 b o q,t2.keep fun b o _ q=>k4 b o q⟩
   have hlen:as.length=(es.toList.map Gk).length:=by rw[hl,d8,B8]
   rw[d8] at h2
   refine W.kat_kind (T:=.type "tuple") (pQ (fs:=es.toList.map Gk) (fun j a ha=>?_) hlen) (by rw[<- hlen];lia) (fun f hf=>?_) (by decide) ⟨rfl,fun i j C hi hj hC=>?_⟩
   ·obtain⟨en,e1,e2,_,_⟩:=ent1 j a ha
    exact⟨en.key,en.val,by rw[v8,O8,e1];rfl,e2⟩
   ·obtain⟨j,hj⟩:=List.mem_iff_getElem?.mp hf
    rw[v8,O8] at hj
    obtain⟨en,e1,e2⟩:=Option.map_eq_some_iff.mp hj
    have hjl:j<as.length:=by rw[hl];exact(Array.getElem?_eq_some_iff.mp e1).1
    obtain⟨en',e3,_,t1,_⟩:=ent1 j as[j] (i6 hjl)
    rw[e1] at e3
    cases e3
    rw[<- e2]
    obtain⟨b,us,ns,eb,⟨ob,hob,hcb,_⟩,_⟩:=t1
    rw[eb]
    exact W.kitAt_ty _ _ ⟨ob,hob,hcb⟩
   ·rw[d8] at hi hj
    obtain⟨en1,_,e2,t1,t2⟩:=ent1 i as[i] (i6 hi)
    obtain⟨en2,_,e3,t3,t4⟩:=ent1 j as[j] (i6 hj)
    unfold sk
    have g1:(as.map n9).getD i A3=.ref as[i]:=by simp[hi]
    have g2:(as.map n9).getD j A3=.ref as[j]:=by simp[hj]
    rw[g1,g2]
    exact HG e2 rfl e3 rfl t1 t3 t2 t4 (by show X.A.units+1+1<dj;lia) hC
  ·refine⟨_,rfl,g0 ⟨_,rfl,?_⟩⟩
   have eL:as.map n9=(as.zip kvs).map fun t=>n9 t.1:=by
    have:(as.zip kvs).map (fun t=>n9 t.1)=((as.zip kvs).map Prod.fst).map n9:=by rw[cJ];rfl
    rw[this,List.map_fst_zip (by lia)]
   rw[eL] at hp
   obtain⟨L',hL,eL'⟩:=kS hp
   have k5:∀b o,s.heap.get? b=some o->h5.get? b=some o:=fun b o e=>kp b o (lt1 b o e) (k2 b o e)
   have mem:∀t∈L',∃j:Nat,as[j]?=some t.1/\kvs[j]?=some t.2:=fun t ht=>by
    have h1:=hL.mem_iff.mp ht
    obtain⟨j,hj⟩:=List.mem_iff_getElem?.mp h1
    rw[List.getElem?_zip_eq_some] at hj
    exact⟨j,hj.1,hj.2⟩
   obtain⟨objs,eo⟩:∃objs:List HO,objs=(es.toList.zip kvs).map fun t=>HO.tup [.ref (match t.1.key with | .ref a=>a|_=>0),t.2.2]:=⟨_,rfl⟩
   have oget:∀(j:Nat) (en:M6) (k:List O4) (x:V) (ka:Addr),es[j]?=some en->kvs[j]?=some (k,x)->en.key=.ref ka->objs[j]?=some (.tup [.ref ka,x]):=fun j en k x ka h1 h2 h3=>by
    have hz:(es.toList.zip kvs)[j]?=some (en,(k,x)):=List.getElem?_zip_eq_some.mpr ⟨by rw[O8];exact h1,h2⟩
    rw[eo,v8,hz]
    show some (HO.tup [.ref (match en.key with | .ref a=>a|_=>0),x])=_
    rw[h3]
   have J:=I.lays (N:=fun b=>if b=h'.objs.size then some (.lst (L'.map fun t=>V.ref t.1)) else (as.zip objs).lookup b) (h':=h5) (t':=tk) k5 (fun b o hb e=>?_)
   ·refine⟨.ref h'.objs.size,_,J,rfl,q _ _ _ _ ?_ (fun b o e=>?_) ?_ (Mw.mk (L:=L') fun t ht=>?_)⟩
    ·have:=hL.map Prod.snd
     rw[Jb (by lia)] at this
     exact this
    ·show (if b<s.heap.objs.size then H b else _)=some o
     rw[if_pos (I.hok.lt e)];exact e
    ·show (if h'.objs.size<s.heap.objs.size then H h'.objs.size else (if h'.objs.size=h'.objs.size then _ else _))=_
     rw[if_neg (iB (aq hzz)),if_pos rfl]
    ·obtain⟨j,h1,h2⟩:=mem t ht
     obtain⟨en,k,x,ka,e1,e2,_,e4,e5,_⟩:=ent j t.1 h1
     rw[h2] at e2
     have ht2:t.2=(k,x):=D8 e2
     have hm:=y8 h1
     refine⟨ka,?_,?_⟩
     ·show (if t.1<s.heap.objs.size then H t.1 else (if t.1=h'.objs.size then _ else (as.zip objs).lookup t.1))=_
      rw[if_neg (iB (hab _ hm)),if_neg (nB _ (alt _ hm)),ht2]
      exact pH hnd h1 (oget j en k x ka e1 (by rw[h2,ht2]) e4)
     ·show (if ka<s.heap.objs.size then H ka else _)=_
      rw[if_pos (I.hok.lt e5),ht2];exact e5
   ·by_cases hbB:b=h'.objs.size
    ·rw[if_pos hbB] at e
     cases e
     have hv':∀L:List (Addr × (List O4 × V)),G6 (L.map fun t=>V.ref t.1) (L.map fun t=>n9 t.1):=fun L=>by
      induction L with
      | nil=>exact .nil
      | cons t L ih=>exact .cons rfl ih
     refine⟨?_,L'.map (fun t=>n9 t.1),c',hv' L',?_⟩
     ·rw[d8,hL.length_eq,List.length_zip,X0];lia
     ·rw[hbB,hB5,eL']
    ·rw[if_neg hbB] at e
     obtain⟨j,h1,h2⟩:=pI e
     obtain⟨en,k,x,ka,e1,e2,e3,e4,e5,e6,_⟩:=ent j b h1
     rw[oget j en k x ka e1 e2 e4] at h2
     cases h2
     refine⟨by show 2<=i7;decide,[en.key,en.val],.cons ?_ (.cons e6 .nil),⟨_,kp _ _ hbB (d9 _ e3),rfl,_,rfl⟩⟩
     exact e4
end
section
variable {K:j7}{σ0:St}{te:TE}{H:Hp}{F:List V->Hp->Prop}
theorem rO {a:Addr}{xs:List V} (hn:xs.length<=i7) (Pv:Nat->List V->Hp->Prop) (h0:Pv 0 [] H) (hl:∀i ys H,Pv i ys H->ys.length=i) (hq:∀i ys H,i<=xs.length->Pv i ys H->fM K H a xs) (hσ:σ0[0]?=some none/\σ0[1]?=some none)
  (hs:∀i ys H x,xs[i]?=some x->Pv i ys H->∃r y z,x=.ref r/\fC K H r [y,z]/\te ((σ0.set 0 (some y)).set 1 (some z)) H fun u H'=>Pv (i+1) (ys++[u]) H') (hd:∀ys H,Pv xs.length ys H->F ys H):
  BN (Mz K a) σ0 (Bq K 2 (lh (R7 0) (lh (R7 1) Fs))) T5 te H F:=by
 refine⟨fun i m ys H=>m=xs.length - i/\i<=xs.length/\Pv i ys H,⟨xs.length,by simp,A7 _,h0⟩,?_⟩
 rintro i m ys H2 ⟨rfl,hi,p⟩
 have q:=hq i ys H2 hi p
 refine⟨by rw[hl i ys H2 p];lia,?_⟩
 by_cases hlt:i<xs.length
 ·refine .inr ⟨⟨xs,xs[i],q,by simp[hlt]⟩,fun y H'=>Pv (i+1) (ys++[y]) H',fun _=>False,fun y H' q=>⟨xs.length - (i+1),by lia,rfl,hlt,q⟩,fun _ q=>q.elim,fun x H3 y=>?_⟩
  obtain⟨rfl,y⟩:=y
  obtain⟨r,y1,z1,rfl,hr,ht⟩:=hs i ys _ x (y xs q) p
  exact⟨r,[y1,z1],rfl,hr,rfl,y1,[z1],rfl,z1,[],rfl,rfl,wk2 hσ _ _,ht⟩
 ·have e:i=xs.length:=by lia
  subst e
  exact .inl ⟨⟨xs,q,i9 _⟩,hd ys H2 p⟩
end
theorem wc:∀ns:List Int,J2 (ns.map N1)=true
 | []=>rfl
 | n::ns=>by
  show J2 (.int n::ns.map N1)=true
  unfold J2
  rw[wc ns]
  first|rfl|simp[N2]
theorem zT:∀ns:List Int,K7 (ns.map N1)<=1
 | []=>by first|decide|simp[K7]
 | n::ns=>by
  have:=zT ns
  show K7 (.int n::ns.map N1)<=1
  unfold K7
  have h:U4 (.int n)<=1:=by first|decide|simp[U4]
  lia
theorem OG (ns:List Int):N2 (DI ns)=true/\U4 (DI ns)<=2:=by
 refine⟨?_,?_⟩
 ·show N2 (.tuple (ns.map N1))=true
  unfold N2
  exact wc ns
 ·have:=zT ns
  show U4 (.tuple (ns.map N1))<=2
  unfold U4
  lia
theorem Aa:∀zs:List (List Int),J2 (zs.map DI)=true
 | []=>rfl
 | z::zs=>by
  show J2 (DI z::zs.map DI)=true
  unfold J2
  rw[Aa zs,(OG z).1];rfl
theorem FE:∀zs:List (List Int),K7 (zs.map DI)<=2
 | []=>by first|decide|simp[K7]
 | z::zs=>by
  have:=FE zs
  have h:=(OG z).2
  show K7 (DI z::zs.map DI)<=2
  unfold K7
  lia
theorem zl (zs:List (List Int)):X5 (cm (zs.map DI))=true:=by
 unfold X5
 rw[w6]
 refine⟨?_,decide_eq_true ?_⟩
 ·show N2 (.tuple (zs.map DI))=true
  unfold N2
  exact Aa zs
 ·have:=FE zs
  show U4 (.tuple (zs.map DI))<=64
  unfold U4
  lia
theorem eqvI (a b:List Int):X8 (DI a) (DI b)=decide (a=b):=by unfold DI X8;exact Jv a b
theorem Ju:∀a b:List (List Int),D3 (a.map DI) (b.map DI)=decide (a=b)
 | [],[]=>by unfold D3;rfl
 | [],y::b=>by
  show D3 [] (DI y::b.map DI)=_
  unfold D3;rfl
 | x::a,[]=>by
  show D3 (DI x::a.map DI) []=_
  unfold D3;rfl
 | x::a,y::b=>by
  show D3 (DI x::a.map DI) (DI y::b.map DI)=_
  unfold D3
  rw[Ju a b,eqvI]
  by_cases h:x=y
  ·subst h;simp
  ·simp[h]
theorem eqvR (a b:List (List Int)):X8 (cm (a.map DI)) (cm (b.map DI))=decide (a=b):=by unfold X8;exact Ju a b
theorem Iw {H:Hp}{x y:V}{a b:List (List Int)}{l:Addr}{Q:VK} (hx:Dt l H (cm (a.map DI)) x) (hy:Dt l H (cm (b.map DI)) y) (q:Q (.bl (decide (a=b))) H):Lb x y H Q:=by
 refine⟨l,cm (a.map DI),cm (b.map DI),hx,hy,zl a,zl b,?_⟩
 rw[eqvR];exact q
end L2
namespace Mq
open PySem PySem.Spec L2 Mt Md
abbrev Q2:=List (List Int × Rat)
noncomputable def fb:Q2->List Int->Rat->Q2
 | [],k,x=>[(k,x)]
 | p::D,k,x=>if p.1=k then (p.1,p.2+x)::D else p::fb D k x
noncomputable def oo:Q2->List Int->Rat
 | [],_=>0
 | p::D,k=>if p.1=k then p.2 else oo D k
noncomputable def mj:Q2->(List Int->Rat)->Rat
 | [],_=>0
 | p::D,φ=>p.2*φ p.1+mj D φ
theorem cF (p:List Int × Rat) (D:Q2) (φ:List Int->Rat):mj (p::D) φ=p.2*φ p.1+mj D φ:=rfl
theorem rE {φ:List Int->Rat}{T T':Q2} (h:T.Perm T'):mj T φ=mj T' φ:=by
 induction h with
 | nil=>rfl
 | cons p _ ih=>rw[cF,cF,ih]
 | swap p q l=>rw[cF,cF,cF,cF];grind
 | trans _ _ h1 h2=>rw[h1,h2]
theorem lg (φ:List Int->Rat):∀T:Q2,mj T φ=gI (T.map fun p=>φ p.1*p.2)
 | []=>rfl
 | p::T=>by rw[cF,lg φ T,r9];show _=φ p.1*p.2+_;grind
theorem ju {k:List Int}{x:Rat}:∀{D:Q2}{p:List Int × Rat},p∈fb D k x->p.1=k ∨ ∃q∈D,q.1=p.1
 | [],p,h=>by
  unfold fb at h
  rw[List.mem_singleton.mp h];exact .inl rfl
 | q::D,p,h=>by
  unfold fb at h
  split at h
  ·rcases List.mem_cons.mp h with z|z
   ·subst z;exact .inr ⟨q,f9,rfl⟩
   ·exact .inr ⟨p,i4 _ z,rfl⟩
  ·rcases List.mem_cons.mp h with z|z
   ·subst z;exact .inr ⟨_,f9,rfl⟩
   ·rcases ju z with y|⟨r,hr,e⟩
    ·exact .inl y
    ·exact .inr ⟨r,i4 _ hr,e⟩
theorem vJ (k:List Int) (x:Rat):∀D:Q2,(fb D k x).length<=D.length+1
 | []=>by unfold fb;simp
 | p::D=>by
  unfold fb
  split
  ·simp
  ·have:=vJ k x D
   rw[m8,m8];lia
def uN (D:Q2):Prop:=(D.map (·.1)).Nodup
theorem zI {k:List Int}{x:Rat}:∀{D:Q2},uN D->uN (fb D k x)
 | [],_=>by unfold fb uN;simp
 | p::D,h=>by
  unfold uN at h
  rw[r9,bN] at h
  unfold fb
  split
  ·unfold uN;rw[r9,bN];exact h
  ·rename_i e
   unfold uN;rw[r9,bN]
   refine⟨fun z=>?_,zI h.2⟩
   obtain⟨q,hq,eq⟩:=List.mem_map.mp z
   rcases ju hq with y|⟨r,hr,er⟩
   ·exact e (by rw[<- eq,y])
   ·exact h.1 (List.mem_map.mpr ⟨r,hr,by rw[er,eq]⟩)
def mC (H:Hp) (x:Rat) (v:V):Prop:=∃q,v=.ref q/\H q=some (.tup ((fr x).map V.int))
variable {H:Hp}{x:Rat}
theorem mC.same {H':Hp}{v:V} (h:∀a xs,H a=some (.tup xs)->H' a=some (.tup xs)):mC H x v->mC H' x v:=fun ⟨q,e,a⟩=>⟨q,e,h _ _ a⟩
noncomputable def QE (H:Hp):Q2->List (List O4 × V)->Prop
 | [],[]=>True
 | p::T,kv::kvs=>kv.1=kI p.1/\mC H p.2 kv.2/\QE H T kvs
 | _,_=>False
theorem QE.mono {H H':Hp} (h:∀a xs,H a=some (.tup xs)->H' a=some (.tup xs)):∀{T:Q2}{kvs:List (List O4 × V)},QE H T kvs->QE H' T kvs
 | [],[],_=>trivial
 | _::_,_::_,⟨a,b,c⟩=>⟨a,b.same h,QE.mono h c⟩
 | [],_::_,h'=>h'.elim
 | _::_,[],h'=>h'.elim
theorem QE.len {H:Hp}:∀{T:Q2}{kvs:List (List O4 × V)},QE H T kvs->kvs.length=T.length
 | [],[],_=>rfl
 | _::_,_::_,⟨_,_,c⟩=>by rw[m8,m8,QE.len c]
 | [],_::_,h'=>h'.elim
 | _::_,[],h'=>h'.elim
theorem QE.get {H:Hp}:∀{T:Q2}{kvs:List (List O4 × V)}{i:Nat}{k:List O4}{x:V},QE H T kvs->kvs[i]?=some (k,x)->∃p,T[i]?=some p/\k=kI p.1/\mC H p.2 x
 | p::_,_::_,0,_,_,⟨a,b,_⟩,h=>by cases h;exact⟨p,rfl,a,b⟩
 | _::_,_::_,i+1,_,_,⟨_,_,c⟩,h=>QE.get (i:=i) c (by simpa using h)
 | [],[],_,_,_,_,h=>by simp at h
 | [],_::_,_,_,_,h',_=>h'.elim
 | _::_,[],_,_,_,h',_=>h'.elim
theorem QE.val {H:Hp}{k:List Int}{z:V} (hz:mC H 0 z):∀{T:Q2}{kvs:List (List O4 × V)},QE H T kvs->mC H (oo T k) ((eD kvs (kI k)).getD z)
 | [],[],_=>hz
 | p::T,kv::kvs,⟨a,b,c⟩=>by
  obtain⟨kk,x⟩:=kv
  have a:kk=kI p.1:=a
  subst a
  unfold oo
  by_cases e:p.1=k
  ·rw[if_pos e,iH (by rw[e])];exact b
  ·rw[if_neg e,fU (fun z=>e (pS z))];exact QE.val hz c
 | [],_::_,h'=>h'.elim
 | _::_,[],h'=>h'.elim
theorem QE.any {H:Hp}{k:List Int}:∀{T:Q2}{kvs:List (List O4 × V)},QE H T kvs->(kvs.any fun kv=>decide (kv.1=kI k))=decide (k∈T.map (·.1))
 | [],[],_=>rfl
 | p::T,kv::kvs,⟨a,_,c⟩=>by
  obtain⟨kk,x⟩:=kv
  have a:kk=kI p.1:=a
  subst a
  show (decide (kI p.1=kI k) || kvs.any _)=_
  rw[QE.any c]
  by_cases e:p.1=k
  ·rw[decide_eq_true (show kI p.1=kI k by rw[e]),Po,decide_eq_true (by rw[<- e];simp)]
  ·rw[decide_eq_false (fun z=>e (pS z)),wK]
   congr 1
   simp[E8 e]
 | [],_::_,h'=>h'.elim
 | _::_,[],h'=>h'.elim
theorem QE.keep {H:Hp}{k:List Int}{v:V}:∀{T:Q2}{kvs:List (List O4 × V)},QE H T kvs->¬ k∈T.map (·.1)->kvs.map (fun kv=>if kv.1=kI k then (kv.1,v) else kv)=kvs
 | [],[],_,_=>rfl
 | p::T,kv::kvs,⟨a,_,c⟩,h=>by
  obtain⟨kk,x⟩:=kv
  have a:kk=kI p.1:=a
  subst a
  rw[r9,C3,not_or] at h
  show (if kI p.1=kI k then (kI p.1,v) else (kI p.1,x))::kvs.map _=(kI p.1,x)::kvs
  rw[if_neg (fun z=>h.1 (pS z).symm),QE.keep c h.2]
 | [],_::_,h',_=>h'.elim
 | _::_,[],h',_=>h'.elim
theorem QE.snoc {H:Hp}{k:List Int}{x:Rat}{v:V} (hv:mC H x v):∀{T:Q2}{kvs:List (List O4 × V)},QE H T kvs->QE H (T++[(k,x)]) (kvs++[(kI k,v)])
 | [],[],_=>⟨rfl,hv,trivial⟩
 | p::T,kv::kvs,⟨a,b,c⟩=>⟨a,b,QE.snoc hv c⟩
 | [],_::_,h'=>h'.elim
 | _::_,[],h'=>h'.elim
theorem Ad {k:List Int}{x:Rat}:∀(D:Q2),¬ k∈D.map (·.1)->fb D k x=D++[(k,x)]
 | [],_=>rfl
 | p::D,h=>by
  rw[r9,C3,not_or] at h
  unfold fb
  rw[if_neg (E8 h.1),Ad D h.2];rfl
theorem yZ {k:List Int}:∀(D:Q2),¬ k∈D.map (·.1)->oo D k=0
 | [],_=>rfl
 | p::D,h=>by
  rw[r9,C3,not_or] at h
  unfold oo
  rw[if_neg (E8 h.1),yZ D h.2]
theorem QE.put {k:List Int}{v:V}:∀{T:Q2}{kvs:List (List O4 × V)},QE H T kvs->uN T->mC H (oo T k+x) v->QE H (fb T k x) (putK kvs (kI k) v):=by
 intro T kvs q nd hv
 unfold putK
 rw[q.any]
 by_cases hk:k∈T.map (·.1)
 ·rw[decide_eq_true hk,if_pos rfl]
  induction T generalizing kvs with
  | nil=>simp at hk
  | cons p T ih =>
   cases kvs with
   | nil=>exact q.elim
   | cons kv kvs =>
    obtain⟨a,b,c⟩:=q
    obtain⟨kk,y⟩:=kv
    have a:kk=kI p.1:=a
    subst a
    unfold uN at nd
    rw[r9,bN] at nd
    unfold fb
    by_cases e:p.1=k
    ·rw[if_pos e]
     show QE H _ ((if kI p.1=kI k then _ else _)::kvs.map _)
     rw[if_pos (by rw[e]),c.keep (by rw[<- e];exact nd.1)]
     unfold oo at hv
     rw[if_pos e] at hv
     exact⟨rfl,hv,c⟩
    ·rw[if_neg e]
     show QE H _ ((if kI p.1=kI k then _ else _)::kvs.map _)
     rw[if_neg (fun z=>e (pS z))]
     unfold oo at hv
     rw[if_neg e] at hv
     have hk':k∈T.map (·.1):=by
      rw[r9,C3] at hk
      exact hk.resolve_left (E8 e)
     exact⟨rfl,b,ih c nd.2 hv hk'⟩
 ·rw[decide_eq_false hk,if_neg (by decide),Ad T hk]
  rw[yZ T hk] at hv
  refine QE.snoc ?_ q
  rw[show (0:Rat)+x=x by grind] at hv
  exact hv
theorem QE.keys {H:Hp}:∀{T:Q2}{kvs:List (List O4 × V)},QE H T kvs->∀kx∈kvs,(∃ns:List Int,kx.1=ns.map cU)/\∃(q:Addr) (ms:List Int),kx.2=.ref q/\H q=some (.tup (ms.map V.int))
 | [],[],_,kx,h=>by simp at h
 | p::T,kv::kvs,⟨a,⟨q,e,hq⟩,c⟩,kx,h=>by
  rcases List.mem_cons.mp h with z|z
  ·subst z;exact⟨⟨p.1,a⟩,q,_,e,hq⟩
  ·exact QE.keys c kx z
 | [],_::_,h',_,_=>h'.elim
 | _::_,[],h',_,_=>h'.elim
theorem QE.perm :∀{T:Q2}{kvs kvs':List (List O4 × V)},QE H T kvs->kvs'.Perm kvs->∃T':Q2,T'.Perm T/\QE H T' kvs':=by
 intro T kvs kvs' q h0
 have h:=h0.symm
 clear h0
 induction h generalizing T with
 | nil=>exact⟨T,.refl _,q⟩
 | cons kv _ ih =>
  cases T with
  | nil=>exact q.elim
  | cons p T =>
   obtain⟨a,b,c⟩:=q
   obtain⟨T',h1,h2⟩:=ih c
   exact⟨p::T',h1.cons p,a,b,h2⟩
 | swap x y l =>
  cases T with
  | nil=>exact q.elim
  | cons p T =>
   cases T with
   | nil=>exact q.2.2.elim
   | cons p' T =>
    obtain⟨a,b,a',b',c⟩:=q
    exact⟨p'::p::T,List.Perm.swap _ _ _,a',b',a,b,c⟩
 | trans _ _ h1 h2 =>
  obtain⟨T1,e1,q1⟩:=h1 q
  obtain⟨T2,e2,q2⟩:=h2 q1
  exact⟨T2,e2.trans e1,q2⟩
noncomputable def aX (x:Rat) (s:Int):List (Int × List Int)->Q2->Q2
 | [],D=>D
 | b::bs,D=>aX x s bs (fb D b.2 (x*cut b.1 s))
noncomputable def U7 (rs:List (List Int)):Q2->Q2->Q2
 | [],D=>D
 | p::T,D=>U7 rs T (aX p.2 p.1.sum (qY rs p.1) D)
noncomputable def pC (rs:List (List Int)) (T:Q2):Q2:=U7 rs T []
noncomputable def je (rs:List (List Int)):Nat->Q2->Q2
 | 0,D=>D
 | k+1,D=>pC rs (je rs k D)
theorem oU (x:Rat) (s:Int) (b:Int × List Int):∀(bs:List (Int × List Int)) (D:Q2),aX x s (bs++[b]) D=fb (aX x s bs D) b.2 (x*cut b.1 s)
 | [],D=>rfl
 | c::bs,D=>by
  show aX x s (bs++[b]) (fb D c.2 (x*cut c.1 s))=_
  rw[oU x s b bs];rfl
theorem mO (rs:List (List Int)) (p:List Int × Rat):∀(T D:Q2),U7 rs (T++[p]) D=aX p.2 p.1.sum (qY rs p.1) (U7 rs T D)
 | [],D=>rfl
 | c::T,D=>by
  show U7 rs (T++[p]) (aX c.2 c.1.sum (qY rs c.1) D)=_
  rw[mO rs p T];rfl
structure Vq (N B:Nat) (x:Rat):Prop where
 nn:0<=x
 le:x<=(B:Rat)
 dv:∃z:Int,x*(N:Rat)=(z:Rat)
variable {N B C:Nat}
theorem Vq.mono (h:Vq N B x) (l:B<=C):Vq N C x:=⟨h.nn,by
 have:((B:Nat):Rat)<=((C:Nat):Rat):=by exact_mod_cast l
 have:=h.le
 grind,h.dv⟩
theorem Vq.zero (N B:Nat):Vq N B 0:=⟨by grind,by exact_mod_cast A7 B,0,by grind⟩
variable {y:Rat}
theorem Vq.add (h:Vq N B x) (k:Vq N C y):Vq N (B+C) (x+y):=by
 obtain⟨z,hz⟩:=h.dv
 obtain⟨t,ht⟩:=k.dv
 have h1:=h.nn;have h2:=h.le;have k1:=k.nn;have k2:=k.le
 refine⟨by grind,?_,z+t,?_⟩
 ·have:((B+C:Nat):Rat)=(B:Rat)+(C:Rat):=by push_cast;rfl
  grind
 ·have:((z+t:Int):Rat)=(z:Rat)+(t:Rat):=by push_cast;rfl
  grind
theorem Vq.mul {M:Nat}(h:Vq N B x) (k:Vq M C y):Vq (N*M) (B*C) (x*y):=by
 obtain⟨z,hz⟩:=h.dv
 obtain⟨t,ht⟩:=k.dv
 have h1:=h.nn;have h2:=h.le;have k1:=k.nn;have k2:=k.le
 have hB:(0:Rat)<=(B:Rat):=by grind
 refine⟨Np h1 k1,?_,z*t,?_⟩
 ·have e:((B*C:Nat):Rat)=(B:Rat)*(C:Rat):=by push_cast;rfl
  rw[e]
  have a1:=qz h2 k1
  have a2:=Rat.mul_le_mul_of_nonneg_left k2 hB
  grind
 ·have e1:((N*M:Nat):Rat)=(N:Rat)*(M:Rat):=by push_cast;rfl
  have e2:((z*t:Int):Rat)=(z:Rat)*(t:Rat):=by push_cast;rfl
  rw[e1,e2,<- hz,<- ht];grind
theorem Vq.one (N:Nat):Vq N 1 1:=⟨by grind,by grind,N,by
 have:((N:Int):Rat)=(N:Rat):=by norm_cast
 grind⟩
def LL:Nat:=(O5 200).foldl (fun a i=>Nat.lcm a (i+1)) 1
theorem My {s:Nat} (h0:0<s) (h:s<=200):∃q,LL=s*q:=by
 have h1:(O5 201).all (fun s=>s == 0 || LL % s == 0)=true:=by decide+kernel
 have h2:=List.all_eq_true.mp h1 s (List.mem_range.mpr (by lia))
 have h3:LL % s=0:=by
  have:(s == 0)=false:=by simp;lia
  rw[this,wK] at h2
  exact beq_iff_eq.mp h2
 exact⟨LL / s,(Nat.mul_div_cancel' (Nat.dvd_of_mod_eq_zero h3)).symm⟩
theorem FX:LL<=2 ^ 300:=by decide+kernel
theorem yP:0<LL:=by decide+kernel
variable {s:Int}
theorem lp {t:Int} (hs:0<s):cut t s*(s:Rat)=(t:Rat):=by
 unfold cut
 have e:(((s.toNat:Nat):Int):Rat)=(s:Rat):=by congr 1;lia
 rw[Rat.mkRat_eq_div,<- e]
 have h:((s.toNat:Nat):Rat)≠0:=by
  intro z
  have:s.toNat=0:=by exact_mod_cast z
  lia
 have e2:(((s.toNat:Nat):Int):Rat)=((s.toNat:Nat):Rat):=by norm_cast
 rw[e2]
 exact Rat.div_mul_cancel h
theorem jr {s:Rat} (hs:0<s) (h:x*s<=y*s):x<=y:=Rat.le_of_mul_le_mul_right h hs
theorem AQ {s:Rat} (hs:0<s) (h:x*s=y*s):x=y:=by
 have h1:=jr hs (show x*s<=y*s by grind)
 have h2:=jr hs (show y*s<=x*s by grind)
 grind
theorem wb (hs:0<s):(0:Rat)<(s:Rat):=by exact_mod_cast hs
theorem yC {t:Int} (h0:0<=t) (h1:t<=s) (hs:0<s) (h2:s<=200):Vq LL 1 (cut t s):=by
 have hm:=lp (t:=t) hs
 have hp:=wb hs
 obtain⟨q,hq⟩:=My (s:=s.toNat) (by lia) (by lia)
 refine⟨jr hp ?_,jr hp ?_,t*q,?_⟩
 ·rw[hm]
  have:(0:Rat)<=(t:Rat):=by exact_mod_cast h0
  grind
 ·rw[hm]
  have:(t:Rat)<=(s:Rat):=by exact_mod_cast h1
  have e:((1:Nat):Rat)=1:=rfl
  rw[e];grind
 ·rw[hq]
  have e1:((s.toNat*q:Nat):Rat)=((s.toNat:Nat):Rat)*(q:Rat):=by push_cast;rfl
  have e2:((s.toNat:Nat):Rat)=(s:Rat):=by
   have:(((s.toNat:Nat):Int):Rat)=(s:Rat):=by congr 1;lia
   rw[<- this];norm_cast
  have e3:((t*(q:Int):Int):Rat)=(t:Rat)*(q:Rat):=by push_cast;rfl
  rw[e1,e2,e3,<- hm];grind
variable {n:Nat}
theorem Vq.bd (h:Vq N B x) (h0:0<N) (h1:N*B<=2 ^ n) (h2:N<=2 ^ n):Bd n x:=by
 obtain⟨z,hz⟩:=h.dv
 have hp:(0:Int)<(N:Int):=by lia
 have hm:=lp (t:=z) hp
 have e:(((N:Nat):Int):Rat)=(N:Rat):=by norm_cast
 rw[e] at hm
 have hq:(0:Rat)<(N:Rat):=by rw[<- e];exact wb hp
 have ex:x=cut z N:=AQ hq (by rw[hz,hm])
 have l0:(0:Rat)<=(z:Rat):=by rw[<- hz];exact Np h.nn (by grind)
 have l1:(z:Rat)<=((B*N:Nat):Rat):=by
  have e2:((B*N:Nat):Rat)=(B:Rat)*(N:Rat):=by push_cast;rfl
  rw[<- hz,e2]
  exact qz h.le (by grind)
 have m0:0<=z:=by exact_mod_cast l0
 have m1:z<=((B*N:Nat):Int):=by exact_mod_cast l1
 rw[ex]
 rw[PN] at h1
 exact Bd.cut hp (by lia) (by lia)
theorem Fe:∀{l:List Int},(∀x∈l,0<=x)->∀x∈l,x<=l.sum
 | [],_,x,h=>by simp at h
 | a::l,h,x,hx=>by
  have h1:=h a f9
  have h2:=eF fun y hy=>h y (i4 _ hy)
  rw[P9]
  rcases List.mem_cons.mp hx with e|e
  ·lia
  ·have:=Fe (fun y hy=>h y (i4 _ hy)) x e
   lia
variable {m:Nat}{u:List Int}
theorem mX (h:gx n m u) (k:Nat):u.getD k 0<=u.sum:=by
 rw[E9]
 cases e:u[k]? with
 | none=>have:=h.pos;show (0:Int)<=_;lia
 | some x=>exact Fe (fun x hx=>(h.nn x hx).1) x (y8 e)
theorem sA (h:gx n m u) (n4:n<=4) (hm:m<=50):u.sum<=200:=by
 have:=Mt.sum_le (m:=50) (l:=u) fun x hx=>by have:=(h.nn x hx).2;lia
 rw[h.len] at this
 lia
theorem Da (h:gx n m u) (n4:n<=4) (hm:m<=50) (k:Nat):Vq LL 1 (fZ u k):=yC (h.getD k).1 (mX h k) h.pos (sA h n4 hm)
def fe (N B:Nat) (D:Q2):Prop:=∀p∈D,Vq N B p.2
theorem fe.add {N B C:Nat}{k:List Int}{x:Rat} (hx:Vq N C x):∀{D:Q2},fe N B D->fe N (B+C) (fb D k x)
 | [],_=>fun p hp=>by
  unfold fb at hp
  rw[List.mem_singleton.mp hp]
  exact hx.mono (by lia)
 | q::D,h=>fun p hp=>by
  unfold fb at hp
  split at hp
  ·rcases List.mem_cons.mp hp with z|z
   ·rw[z];exact(h q f9).add hx
   ·exact(h p (i4 _ z)).mono (by lia)
  ·rcases List.mem_cons.mp hp with z|z
   ·rw[z];exact(h q f9).mono (by lia)
   ·exact fe.add hx (fun r hr=>h r (i4 _ hr)) p z
theorem fe.val {N B:Nat}{k:List Int}:∀{D:Q2},fe N B D->Vq N B (oo D k)
 | [],_=>Vq.zero N B
 | q::D,h=>by
  unfold oo
  split
  ·exact h q f9
  ·exact fe.val fun r hr=>h r (i4 _ hr)
theorem fe.mono {N B C:Nat}{D:Q2} (h:fe N B D) (l:B<=C):fe N C D:=fun p hp=>(h p hp).mono l
def fE (n m:Nat) (D:Q2):Prop:=∀p∈D,gx n m p.1
theorem fE.add {D:Q2}{k:List Int}(h:fE n m D) (hk:gx n m k):fE n m (fb D k x):=fun p hp=>by
 rcases ju hp with e|⟨q,hq,e⟩
 ·rw[e];exact hk
 ·rw[<- e];exact h q hq
theorem gZ {rs:List (List Int)}{u:List Int}:∀{bs:List Int}{i:Nat}{b:Int × List Int},b∈eE rs u i bs->0<b.1
 | [],_,_,h=>by unfold eE at h;simp at h
 | x::bs,i,b,h=>by
  unfold eE at h
  split at h
  ·rcases List.mem_cons.mp h with e|e
   ·subst e;assumption
   ·exact gZ e
  ·exact gZ h
variable {rs:List (List Int)}
theorem pE {b:Int × List Int} (hR:kB n 5 rs) (hu:gx n m u) (h:b∈qY rs u):(0<b.1/\b.1<=u.sum)/\gx n (m+5) b.2:=by
 have hp:=gZ h
 obtain⟨j,h1,h2,h3⟩:=kZ h
 rw[br] at h3
 have hj:j<n:=by rw[<- hu.len];exact h1
 refine⟨⟨hp,?_⟩,?_⟩
 ·rw[h2];exact mX hu j
 ·rw[h3];exact hu.add (hR.at hj)
theorem oS {n m N E:Nat}{x:Rat}{s:Int} (hx:Vq N E x) (hs:0<s) (hs2:s<=200):∀(bs:List (Int × List Int)) {D:Q2}{B:Nat},(∀b∈bs,(0<b.1/\b.1<=s)/\gx n m b.2)->fE n m D->uN D->fe (N*LL) B D ->
  fE n m (aX x s bs D)/\uN (aX x s bs D)/\fe (N*LL) (B+E*bs.length) (aX x s bs D)/\(aX x s bs D).length<=D.length+bs.length
 | [],D,B,_,h1,h2,h3=>⟨h1,h2,h3,by unfold aX;simp⟩
 | b::bs,D,B,h,h1,h2,h3=>by
  unfold aX
  have hb:=h b f9
  have hv:Vq (N*LL) E (x*cut b.1 s):=(hx.mul (yC (by lia) hb.1.2 hs hs2)).mono (by lia)
  obtain⟨a1,a2,a3,a4⟩:=oS hx hs hs2 bs (D:=fb D b.2 (x*cut b.1 s)) (fun c hc=>h c (i4 _ hc)) (h1.add hb.2) (zI h2) (h3.add hv)
  refine⟨a1,a2,a3.mono ?_,?_⟩
  ·rw[m8,Y0];lia
  ·have:=vJ b.2 (x*cut b.1 s) D
   rw[m8];lia
theorem zL (hu:gx n m u):(qY rs u).length<=n:=by
 have:=pM (rs:=rs) (u:=u) u 0
 unfold qY;rw[<- hu.len];exact this
theorem md {n m N E:Nat}{rs:List (List Int)} (hR:kB n 5 rs) (n4:n<=4) (hm:m<=50):∀(T:Q2) {D:Q2}{B:Nat},fE n m T->fe N E T->fE n (m+5) D->uN D->fe (N*LL) B D ->
  fE n (m+5) (U7 rs T D)/\uN (U7 rs T D)/\fe (N*LL) (B+E*(4*T.length)) (U7 rs T D)/\(U7 rs T D).length<=D.length+n*T.length
 | [],D,B,_,_,h1,h2,h3=>⟨h1,h2,h3,by unfold U7;simp⟩
 | p::T,D,B,h,hE,h1,h2,h3=>by
  unfold U7
  have hp:=h p f9
  obtain⟨b1,b2,b3,b4⟩:=oS (m:=m+5) (hE p f9) hp.pos (sA hp n4 hm) (qY rs p.1) (fun b hb=>pE hR hp hb) h1 h2 h3
  obtain⟨a1,a2,a3,a4⟩:=md hR n4 hm T (fun q hq=>h q (i4 _ hq)) (fun q hq=>hE q (i4 _ hq)) b1 b2 b3
  have e:=zL (rs:=rs) hp
  refine⟨a1,a2,a3.mono ?_,?_⟩
  ·have:E*(qY rs p.1).length<=E*4:=Q7 _ (by lia)
   rw[m8,Y0 4,Y0 E];lia
  ·rw[m8,Y0,Nat.mul_one];lia
theorem EK {E:Nat}{T:Q2} (hR:kB n 5 rs) (n4:n<=4) (hm:m<=50) (h:fE n m T) (hE:fe N E T):fE n (m+5) (pC rs T)/\uN (pC rs T)/\fe (N*LL) (E*(4*T.length)) (pC rs T)/\(pC rs T).length<=n*T.length:=by
 obtain⟨a,b,c,d⟩:=md (D:=[]) (B:=0) hR n4 hm T h hE (fun p hp=>by simp at hp) (by unfold uN;simp) (fun p hp=>by simp at hp)
 exact⟨a,b,by rw[br] at c;exact c,by rw[X6,br] at d;exact d⟩
theorem mY {n:Nat}{rs:List (List Int)}{u:List Int} (hR:kB n 5 rs) (n4:n<=4) (hu:gx n 20 u):∀k:Nat,k<=6->fE n (20+5*k) (je rs k [(u,1)])/\uN (je rs k [(u,1)])/\fe (LL ^ k) (4 ^ (k*k)) (je rs k [(u,1)])/\(je rs k [(u,1)]).length<=4 ^ k
 | 0,_=>⟨fun p hp=>by rw[List.mem_singleton.mp hp];exact hu,by unfold je uN;simp,fun p hp=>by rw[List.mem_singleton.mp hp];exact Vq.one _,by show 1<=1;lia⟩
 | k+1,hk=>by
  obtain⟨a1,a2,a3,a4⟩:=mY hR n4 hu k (by lia)
  obtain⟨b1,b2,b3,b4⟩:=EK hR n4 (by lia) a1 a3
  refine⟨?_,b2,?_,?_⟩
  ·rw[show 20+5*(k+1)=20+5*k+5 by lia];exact b1
  ·rw[Ay LL]
   refine b3.mono ?_
   have h1:4*(je rs k [(u,1)]).length<=4 ^ (k+1):=by rw[Ay];lia
   refine j9 (Q7 _ h1) ?_
   rw[<- N8]
   refine B9 (by decide) ?_
   have:(k+1)*(k+1)=k*k+k+k+1:=by rw[Nat.add_mul,Y0];lia
   lia
  ·show (pC rs _).length<=4 ^ (k+1)
   have:n*(je rs k [(u,1)]).length<=4*4 ^ k:=F5 n4 a4
   rw[Ay];lia
theorem uw (k:Nat):LL ^ k<=2 ^ (300*k):=by
 rw[Nat.pow_mul];exact Nat.pow_le_pow_left FX k
theorem og (k:Nat):0<LL ^ k:=Nat.pow_pos yP
noncomputable def mB (H:Hp):List Rat->List V->Prop
 | [],[]=>True
 | x::xs,v::vs=>mC H x v/\mB H xs vs
 | _,_=>False
theorem mB.mono {H H':Hp} (h:∀a xs,H a=some (.tup xs)->H' a=some (.tup xs)):∀{xs:List Rat}{vs:List V},mB H xs vs->mB H' xs vs
 | [],[],_=>trivial
 | _::_,_::_,⟨a,b⟩=>⟨a.same h,mB.mono h b⟩
 | [],_::_,h'=>h'.elim
 | _::_,[],h'=>h'.elim
theorem mB.snoc {H:Hp}{x:Rat}{v:V} (hv:mC H x v):∀{xs:List Rat}{vs:List V},mB H xs vs->mB H (xs++[x]) (vs++[v])
 | [],[],_=>⟨hv,trivial⟩
 | _::_,_::_,⟨a,b⟩=>⟨a,mB.snoc hv b⟩
 | [],_::_,h'=>h'.elim
 | _::_,[],h'=>h'.elim
theorem mB.len {H:Hp}:∀{xs:List Rat}{vs:List V},mB H xs vs->vs.length=xs.length
 | [],[],_=>rfl
 | _::_,_::_,⟨_,b⟩=>by rw[m8,m8,mB.len b]
 | [],_::_,h'=>h'.elim
 | _::_,[],h'=>h'.elim
theorem mB.get {H:Hp}:∀{xs:List Rat}{vs:List V}{i:Nat}{v:V},mB H xs vs->vs[i]?=some v->∃x,xs[i]?=some x/\mC H x v
 | x::_,_::_,0,_,⟨a,_⟩,h=>by cases h;exact⟨x,rfl,a⟩
 | _::_,_::_,i+1,_,⟨_,b⟩,h=>mB.get (i:=i) b (by simpa using h)
 | [],[],_,_,_,h=>by simp at h
 | [],_::_,_,_,h',_=>h'.elim
 | _::_,[],_,_,h',_=>h'.elim
theorem sC {N B:Nat}:∀{xs:List Rat},(∀x∈xs,Vq N B x)->Vq N (B*xs.length) (gI xs)
 | [],_=>Vq.zero N _
 | x::xs,h=>by
  have h1:=sC fun y hy=>h y (i4 _ hy)
  have h2:=(h x f9).add h1
  exact h2.mono (by rw[m8,Y0];lia)
theorem AH (xs:List Rat) (x:Rat):gI (xs++[x])=gI xs+x:=by
 rw[mJ];show _+(x+0)=_;grind
end Mq
namespace G
open PySem PySem.Spec PyProof.Rows L2 Mt Md Mq
structure Ct2 (mg:Str->Option b9):Prop where
 stand:∃t,mg "MOST_STAND_DRAWS"=some (.int 6 t)
structure Nb (mg:Str->Option b9):Prop where
 enumerate:mg "enumerate"=none
 sorted:mg "sorted"=none
theorem NL {k:Int} (h1:1<=k) (h4:k<=4):Sm k:=by
 have h:k=1 ∨ k=2 ∨ k=3 ∨ k=4:=by lia
 rcases h with rfl|rfl|rfl|rfl <;> (unfold Sm;decide+kernel)
theorem jm {m:Int}{d:C1} (h:Q5 m d=true):∃ns:List Int,d=DI ns/\1<=ns.length/\ns.length<=4/\(∀x∈ns,0<=x/\x<=m)/\0<ns.sum:=by
 unfold Q5 at h
 rw[w6,w6,w6] at h
 obtain⟨hw,⟨h1,h4⟩,hs⟩:=h
 obtain⟨ns,e,hn⟩:=dN hw
 subst e
 rw[V0] at h1 h4
 rw[sD] at hs
 have h1':=of_decide_eq_true h1
 have h4':=of_decide_eq_true h4
 exact⟨ns,rfl,by lia,by lia,hn,of_decide_eq_true hs⟩
variable {n:Nat}
theorem fB {i:Int}(h:i.natAbs<=2 ^ n) (hn:n<=100000):G3 i<=2 ^ 20:=by
 unfold G3
 split
 ·exact A7 _
 ·rename_i hz
  have hz':i.natAbs≠0:=fun e=>hz (by rw[beq_iff_eq];lia)
  have h2:i.natAbs.log2<n+1:=(ez hz').mpr (K6 h (eh (by decide) (by lia)))
  lia
theorem ET {i:Int}(h0:0<i) (h:i.natAbs<=2 ^ n) (hn:n<8999):i.natAbs.log2<9000:=by
 rw[ez (by lia)]
 exact K6 h (eh (by decide) (by lia))
theorem Fq {x y:Int} (hx:0<=x) (hy:0<y):Z3 y (x % y)=Z3 x y:=by
 have h1:(x % y).natAbs=x.natAbs % y.natAbs:=by
  rw[Int.natAbs_emod_of_nonneg hx]
 unfold Z3
 rw[h1,PR x.natAbs,Nat.gcd_rec y.natAbs x.natAbs,PR]
theorem FI {t b:Int} (ht:0<=t) (hb:0<b):0<=(cut t b).num:=by
 rw[nY hb];exact ML ht (by lia)
theorem Dc {m:Nat}{ns:List Int} (h:gx n m ns) (k:Nat):0<=Mt.fZ ns k:=Rat.num_nonneg.mp (FI (h.getD k).1 h.pos)
theorem gx.sum_le {n m:Nat}{ns:List Int} (h:Mt.gx n m ns) (hn:n<=4):ns.sum<=(m:Int)*4:=by
 have:=Mt.sum_le (m:=(m:Int)) (l:=ns) fun x hx=>(h.nn x hx).2
 rw[h.len] at this
 refine Int.le_trans this (Int.mul_le_mul_of_nonneg_left (by lia) (by lia))
theorem De {m:Nat}{ns:List Int} (h:Mt.gx n m ns) (hn:n<=4) (hm:m<=1000) (k:Nat):Bd 12 (Mt.fZ ns k):=by
 have h1:=h.getD k
 have h2:=gx.sum_le h hn
 have h3:=h.pos
 refine Bd.cut h.pos ?_ ?_
 ·show _<=4096;lia
 ·show _<=4096;lia
theorem xQ {k:Int}{d:C1} (h:K8 k d=true):∃(rs:List (List Int)) (n:Nat),d=DR rs/\k=n/\Mt.kB n 5 rs:=by
 cases d with
 | tuple ds =>
  have h':(decide ((ds.length:Int)=k)&&ds.all (fun r=>S2 0 5 r&&decide ((bI r:Int)=k)))=true:=h
  rw[w6] at h'
  obtain⟨h1,h2⟩:=h'
  have h1':=of_decide_eq_true h1
  have:∀(es:List C1),es.all (fun r=>S2 0 5 r&&decide ((bI r:Int)=k))=true->∃rs:List (List Int),es=rs.map DI/\∀r∈rs,(r.length:Int)=k/\∀x∈r,0<=x/\x<=5:=by
   intro es
   induction es with
   | nil=>exact fun _=>⟨[],rfl,by simp⟩
   | cons e es ih =>
    intro ha
    rw[lF,w6,w6] at ha
    obtain⟨⟨hw,hl⟩,hr⟩:=ha
    obtain⟨rs,e1,e2⟩:=ih hr
    obtain⟨ns,e3,hn⟩:=dN hw
    subst e3
    rw[V0] at hl
    refine⟨ns::rs,by rw[e1];rfl,fun r hr'=>?_⟩
    rcases List.mem_cons.mp hr' with z|z
    ·subst z;exact⟨of_decide_eq_true hl,hn⟩
    ·exact e2 r z
  obtain⟨rs,e1,e2⟩:=this ds h2
  refine⟨rs,ds.length,by rw[e1],h1'.symm,⟨by rw[e1,d8],fun r hr=>⟨?_,fun x hx=>?_⟩⟩⟩
  ·have:=(e2 r hr).1;lia
  ·have:=(e2 r hr).2 x hx;lia
 | _=>cases (show false=true from h)
theorem NM:Sm 6:=by unfold Sm;decide+kernel
theorem iZ {α β:Type}{f:α->β} (hf:∀a b,f a=f b->a=b):∀(l m:List α),l.map f=m.map f->l=m
 | [],[],_=>rfl
 | [],b::m,h=>by cases h
 | a::l,[],h=>by cases h
 | a::l,b::m,h=>by
  rw[r9,r9] at h
  injection h with h1 h2
  rw[hf a b h1,iZ hf l m h2]
theorem MA {rs rs':List (List Int)} (h:DR rs=DR rs'):rs=rs':=by
 injection h with h
 refine iZ (fun a b e=>?_) _ _ h
 injection e with e
 exact iZ (fun x y z=>by injection z) _ _ e
mutual
theorem FZ {l T:Addr}{H:Hp}{ps:List (List O4 × V)} (hT:H T=some (.dT ps)):∀{d:C1}{v:V},Dt l H d v->Dt T H d v
 | .none,_,h=>by unfold Dt at h ⊢;exact h
 | .bool _,_,h=>by unfold Dt at h ⊢;exact h
 | .int _,_,h=>by unfold Dt at h ⊢;exact h
 | .str _,_,h=>by unfold Dt at h ⊢;exact h
 | .tuple ds,_,h=>by
  unfold Dt at h ⊢
  obtain⟨a,xs,e,n,q,r⟩:=h
  exact⟨a,xs,e,(fun z=>by rw[z,hT] at q;cases q),q,ux hT r⟩
 | .list ds,_,h=>by
  unfold Dt at h ⊢
  obtain⟨a,xs,e,n,q,r⟩:=h
  exact⟨a,xs,e,(fun z=>by rw[z,hT] at q;cases q),q,ux hT r⟩
 | .dict kvs,_,h=>by
  unfold Dt at h ⊢
  obtain⟨z,a,e,n,q⟩:=h
  exact⟨z,a,e,(fun z=>by rw[z,hT] at q;cases q),q⟩
theorem ux {l T:Addr}{H:Hp}{ps:List (List O4 × V)} (hT:H T=some (.dT ps)):∀{ds:List C1}{xs:List V},T6 l H ds xs->T6 T H ds xs
 | [],_,h=>by unfold T6 at h ⊢;exact h
 | d::ds,_,h=>by
  unfold T6 at h ⊢
  obtain⟨x,r,e,q1,q2⟩:=h
  exact⟨x,r,e,FZ hT q1,ux hT q2⟩
end
noncomputable def cu (H:Hp):List (Int × List Int)->List V->Prop
 | [],ts=>ts=[]
 | b::bs,ts=>∃q w r,ts=.ref q::r/\H q=some (.tup [.int b.1,.ref w])/\H w=some (.tup (b.2.map V.int))/\cu H bs r
theorem cu.mono {H H':Hp} (h:∀a xs,H a=some (.tup xs)->H' a=some (.tup xs)):∀{bs:List (Int × List Int)}{ts:List V},cu H bs ts->cu H' bs ts
 | [],_,p=>p
 | _::_,_,⟨q,w,r,e,h1,h2,h3⟩=>⟨q,w,r,e,h _ _ h1,h _ _ h2,cu.mono h h3⟩
theorem cu.snoc {H:Hp}{b:Int × List Int}{q w:Addr} (h1:H q=some (.tup [.int b.1,.ref w])) (h2:H w=some (.tup (b.2.map V.int))):∀{bs:List (Int × List Int)}{ts:List V},cu H bs ts->cu H (bs++[b]) (ts++[.ref q])
 | [],_,p=>by
  rw[show _=[] from p]
  exact⟨q,w,[],rfl,h1,h2,rfl⟩
 | _::_,_,⟨q',w',r,e,a1,a2,a3⟩=>⟨q',w',r++[.ref q],by rw[e];rfl,a1,a2,cu.snoc h1 h2 a3⟩
theorem cu.len {H:Hp}:∀{bs:List (Int × List Int)}{ts:List V},cu H bs ts->ts.length=bs.length
 | [],_,p=>by rw[show _=[] from p];rfl
 | _::_,_,⟨q,w,r,e,_,_,h3⟩=>by rw[e,m8,m8,cu.len h3]
theorem cu.get {H:Hp}:∀{bs:List (Int × List Int)}{ts:List V}{i:Nat}{t:V},cu H bs ts->ts[i]?=some t->∃b q w,bs[i]?=some b/\t=.ref q/\H q=some (.tup [.int b.1,.ref w])/\H w=some (.tup (b.2.map V.int))
 | [],_,_,_,p,h=>by rw[show _=[] from p] at h;simp at h
 | b::_,_,0,_,⟨q,w,r,e,h1,h2,_⟩,h=>by
  rw[e] at h;cases h
  exact⟨b,q,w,rfl,rfl,h1,h2⟩
 | _::_,_,i+1,_,⟨q,w,r,e,_,_,h3⟩,h=>by
  rw[e] at h
  obtain⟨b,q',w',e1,e2,e3,e4⟩:=cu.get (i:=i) h3 (by simpa using h)
  exact⟨b,q',w',by simpa using e1,e2,e3,e4⟩
theorem qX (rs:List (List Int)) (u:List Int) (b:Int):∀(bs:List Int) (i:Nat),eE rs u i (bs++[b])=eE rs u i bs++(if 0<b then [(b,Y8 u (rs.getD (i+bs.length) []))] else [])
 | [],i=>by
  show eE rs u i [b]=[]++_
  rw[lJ]
  split <;> rfl
 | x::bs,i=>by
  show eE rs u i (x::(bs++[b]))=_
  rw[lJ,lJ,qX rs u b bs (i+1),m8,show i+1+bs.length=i+(bs.length+1) by lia]
  by_cases h:0<x
  ·rw[if_pos h,if_pos h];rfl
  ·rw[if_neg h,if_neg h]
theorem NP:Sm 0:=by unfold Sm;decide+kernel
theorem AJ (h:n<=10000):n<i7:=by rw[X0];lia
section
variable {P:i8}{w:t9}{K:j7}{mg:Str->Option b9}{base:Heap}{f:Addr}{fd:A9}{ec:Nat->Addr}{Bs:Addr}
def cW (ec:Nat->Addr):Sp:=fun vs H Q E=>∃(v:V) (st:Addr) (d:C1),vs=[v]/\Dt st H d v/\cq d/\(Q5 20 d=true->∀H',n8 H H'->Q .non H')/\(Q5 20 d=false->∀H',n8 H H'->E (.ref (ec 0)) none H')
abbrev jS:Stmt:=top 29
theorem vj:B1 ["thing"] ["thing"] (r6 jS):=⟨rfl,rfl,rfl,by decide+kernel,rfl,by decide+kernel,by decide+kernel⟩
theorem vz (F:Y3 K "need_urn" "need_urn" jS f fd) (R:jA K mg ec Bs) (c1:S6 P w K mg base 4 "is_urn" ["thing"] fX):G7 P w K mg base (cj P w) 5 f fd ["thing"] (cW ec):=by
 refine F.okX vj (fun vs H Q E h=>?_) (fun cdv A outer s H vs Q E hr h=>?_)
 ·obtain⟨v,st,d,rfl,_⟩:=h
  rfl
 obtain⟨v,st,d,rfl,hd,hs,q1,q2⟩:=h
 refine⟨_,n6 (K4 (cB (az (B0 c1 hr rfl (b8 (pv 0) f7)))) (n6 (U0 R.e0 (R.xc 0 (by decide)) D0 (fun σ H Q Q' m q=>m _ _ q))) D4),?_⟩
 refine⟨_,rfl,v,st,d,rfl,hd,hs,fun H1 g1=>⟨_,rfl,?_⟩⟩
 cases hw:Q5 20 d with
 | true=>exact N3 (q1 hw H1 g1)
 | false=>exact O2 (q2 hw H1 g1)
def gJ (ec:Nat->Addr):Sp:=fun vs H Q E=>∃(v:V) (st:Addr) (d:C1) (k:Int),vs=[.int k,v]/\1<=k/\k<=4/\Dt st H d v/\tU d/\(K8 k d=true->∀H',n8 H H'->Q .non H')/\(K8 k d=false->∀H',n8 H H'->E (.ref (ec 1)) none H')
abbrev iM:Stmt:=top 30
theorem sQ:B1 ["kinds","thing"] ["kinds","thing"] (r6 iM):=⟨rfl,rfl,rfl,by decide+kernel,rfl,by decide+kernel,by decide+kernel⟩
theorem tR (F:Y3 K "need_rule" "need_rule" iM f fd) (R:jA K mg ec Bs) (c1:O9 P w K mg base 3 "is_rule" ["kinds","thing"] (gK ec)):G7 P w K mg base (cj P w) 4 f fd ["kinds","thing"] (gJ ec):=by
 refine F.okX sQ (fun vs H Q E h=>?_) (fun cdv A outer s H vs Q E hr h=>?_)
 ·obtain⟨v,st,d,k,rfl,_⟩:=h
  rfl
 obtain⟨v,st,d,k,rfl,k1,k4,hd,ok,q1,q2⟩:=h
 refine⟨_,n6 (K4 (cB (az (G1 c1 hr rfl K0 (b8 (pv 0) (b8 (pv 1) f7))))) (n6 (U0 R.e1 (R.xc 1 (by decide)) (tN (lW (tJ (pv 0) (lW xV)))) (fun σ H Q Q' m q=>?_))) D4),?_⟩
 ·obtain⟨v1,z1,i1,z2,z3,z4,z5⟩:=q
  exact⟨v1,z1,i1,z2,z3,z4,fun z=>m _ _ (z5 z)⟩
 refine⟨_,rfl,_,rfl,.int k,v,st,.int k,d,rfl,Dt.int _ _ _,(fun hw=>?_),fun k' e _ _=>?_⟩
 ·have hw':(decide ((1:Int)<=k)&&decide (k<=4))=false:=hw
  rw[decide_eq_true k1,decide_eq_true k4] at hw'
  cases hw'
 cases e
 refine⟨hd,ok.1,ok.2,fun H1 g1=>⟨_,rfl,?_⟩⟩
 cases hw:K8 k d with
 | true=>exact N3 (q1 hw H1 g1)
 | false=>exact O2 ⟨_,rfl,k,rfl,(NL k1 k4).1,(NL k1 k4).2,fun z=>q2 hw H1 g1⟩
def sH (ec:Nat->Addr):Sp:=fun vs H Q E=>∃(u v:V) (st:Addr) (d e:C1),vs=[u,v]/\Dt st H d u/\cq d/\Dt st H e v/\tU e/\(Q5 20 d=false->∀H',n8 H H'->E (.ref (ec 0)) none H') /\
 (Q5 20 d=true->K8 (bI d) e=false->∀H',n8 H H'->E (.ref (ec 1)) none H')/\(Q5 20 d=true->K8 (bI d) e=true->∀H',n8 H H'->Q .non H')
abbrev Dv:Stmt:=top 31
theorem Kr:B1 ["urn","rule"] ["urn","rule"] (r6 Dv):=⟨rfl,rfl,rfl,by decide+kernel,rfl,by decide+kernel,by decide+kernel⟩
theorem Ln (F:Y3 K "need_urn_and_rule" "need_urn_and_rule" Dv f fd) (B:Bt mg) (c1:O9 P w K mg base 5 "need_urn" ["thing"] (cW ec)) (c2:O9 P w K mg base 4 "need_rule" ["kinds","thing"] (gJ ec)):G7 P w K mg base (cj P w) 6 f fd ["urn","rule"] (sH ec):=by
 refine F.okX Kr (fun vs H Q E h=>?_) (fun cdv A outer s H vs Q E hr h=>?_)
 ·obtain⟨u,v,st,d,e,rfl,_⟩:=h
  rfl
 obtain⟨u,v,st,d,e,rfl,hu,hus,hv,hvo,q0,q1,q2⟩:=h
 refine⟨_,j5 (X9 (G1 c1 hr rfl K0 (b8 (pv 0) f7))) (n6 (X9 (G1 (c2.up (by decide)) hr rfl K0 (b8 (A1 E2 rfl B.len C9 (b8 (pv 0) f7)) (b8 (pv 1) f7))))),?_⟩
 refine⟨_,rfl,u,st,d,rfl,hu,hus,fun hw H1 g1=>?_,q0⟩
 obtain⟨ns,e1,l1,l4,_⟩:=jm hw
 subst e1
 obtain⟨a,e2,_,ha⟩:=hu.di
 subst e2
 have q1':=q1 hw
 have q2':=q2 hw
 rw[V0] at q1' q2'
 refine⟨_,rfl,a,_,rfl,.inr (.of (g1 _ _ ha)),_,rfl,v,st,e,(ns.length:Int),?_,by lia,by lia,hv.kp (g1.kp st),hvo,fun hr2 H2 g2=>q2' hr2 H2 (g1.trans g2),fun hr2 H2 g2=>q1' hr2 H2 (g1.trans g2)⟩
 rw[d8]
def CW:Sp:=fun vs H Q _=>∃x y:Int,vs=[.int x,.int y]/\0<=x/\0<=y/\Q (.int (Z3 x y:Nat)) H
abbrev KM:Stmt:=top 17
theorem Jn:B1 ["one","other"] ["one","other"] (r6 KM):=⟨rfl,rfl,rfl,by decide+kernel,rfl,by decide+kernel,by decide+kernel⟩
theorem OA (F:Y3 K "greatest_divisor" "greatest_divisor" KM f fd) (B:Bt mg):G7 P w K mg base cQ 1 f fd ["one","other"] CW:=by
 refine F.ok Jn (fun vs H Q E h=>?_) (fun cdv A outer s H vs Q E hr h=>?_)
 ·obtain⟨x,y,rfl,_⟩:=h
  rfl
 obtain⟨x,y,rfl,hx,hy,q⟩:=h
 refine⟨_,j5 (DW Z6 (E4 iW (pv 1) t8 (G0 _)) (n6 (Lc (i:=0) (j:=1) rfl Jn.nd rfl rfl (by decide) rfl rfl (b8 (pv 1) (b8 (J6 jX (pv 0) (pv 1)) f7)) rfl)))
  (n6 (A5 (A1 FM rfl B.abs boot_abs (b8 (pv 0) f7)))),?_⟩
 refine⟨fun m σ H2=>H2=H/\∃x' y':Int,0<=x'/\0<=y'/\σ=[some (.int x'),some (.int y')]/\m=y'.toNat/\Z3 x' y'=Z3 x y,⟨_,rfl,x,y,hx,hy,rfl,rfl,rfl⟩,?_⟩
 rintro m σ H2 ⟨rfl,x',y',h1,h2,rfl,rfl,e⟩
 refine⟨_,rfl,rfl,_,rfl,?_⟩
 by_cases hz:y'=0
 ·subst hz
  rw[decide_eq_true rfl]
  refine N3 ⟨_,rfl,x',rfl,?_⟩
  have e2:(if x'<0 then -x' else x')=((Z3 x y:Nat):Int):=by
   rw[<- e,Int.gcd_zero_right]
   split <;> lia
  rw[e2];exact q
 ·rw[decide_eq_false (show ¬ V.int y'=V.int 0 from fun z=>hz (by injection z))]
  refine O2 ⟨fun σ' H'=>H'=H2/\∃a b:Int,0<=a/\0<=b/\σ'=[some (.int a),some (.int b)]/\b.toNat<y'.toNat/\Z3 a b=Z3 x y,?_,?_⟩
  ·rintro σ' H' ⟨rfl,a,b,ha,hb,rfl,hlt,e2⟩
   exact⟨_,hlt,rfl,a,b,ha,hb,rfl,rfl,e2⟩
  ·have hm:=eY x' (show y'≠0 from hz)
   have hm2:=cg x' (show 0<y' by lia)
   refine⟨_,rfl,_,rfl,_,rfl,_,_,rfl,rfl,(by lia),_,_,rfl,?_⟩
   exact⟨rfl,y',x' % y',h2,hm,rfl,by lia,by rw[Fq h1 (by lia)];exact e⟩
def bA:Sp:=fun vs H Q _=>∃t b:Int,vs=[.int t,.int b]/\0<=t/\0<b/\b.natAbs.log2<9000/\∀p H',n8 H H'->H' p=some (.tup ((fr (cut t b)).map V.int))->Q (.ref p) H'
abbrev jU:Stmt:=top 18
theorem mM:B1 ["top","bottom","divisor"] ["top","bottom"] (r6 jU):=⟨rfl,rfl,rfl,by decide+kernel,rfl,by decide+kernel,by decide+kernel⟩
theorem Io {t b:Int} (hb:0<b) (h:b.natAbs.log2<9000):0<((Z3 t b:Nat):Int)/\((Z3 t b:Nat):Int).natAbs.log2<9000:=by
 have h0:0<Z3 t b:=Int.gcd_pos_of_ne_zero_right _ (by lia)
 refine⟨by lia,?_⟩
 rw[cf]
 have l:Z3 t b<=b.natAbs:=Nat.le_of_dvd (by lia) (Nat.gcd_dvd_right _ _)
 rw[ez (by lia)] at h ⊢
 lia
theorem vB (F:Y3 K "fraction" "fraction" jU f fd) (c1:S6 P w K mg base 1 "greatest_divisor" ["one","other"] CW):G7 P w K mg base cQ 2 f fd ["top","bottom"] bA:=by
 refine F.ok mM (fun vs H Q E h=>?_) (fun cdv A outer s H vs Q E hr h=>?_)
 ·obtain⟨x,y,rfl,_⟩:=h
  rfl
 obtain⟨t,b,rfl,ht,hb,hlog,q⟩:=h
 refine⟨_,j5 (F7 (i:=2) mM.nd rfl (A4 rfl) (B0 c1 hr rfl (b8 (pv 0) (b8 (pv 1) f7))))
  (n6 (A5 (cC (b8 (J6 vt (pv 0) (pv 2)) (b8 (J6 vt (pv 1) (pv 2)) f7))))),?_⟩
 have g:=Io (t:=t) hb hlog
 refine⟨_,rfl,_,rfl,t,b,rfl,ht,by lia,?_⟩
 refine⟨_,rfl,_,rfl,_,_,rfl,rfl,g,_,rfl,_,rfl,_,_,rfl,rfl,g,(by show 2<=i7;decide),fun p hp=>?_⟩
 refine q p _ (n8.new hp) ?_
 rw[j0,LZ hb];rfl
def iJ:Sp:=fun vs H Q _=>∃(p q:Addr) (x y:Rat) (n m:Nat),vs=[.ref p,.ref q]/\H p=some (.tup ((fr x).map V.int))/\H q=some (.tup ((fr y).map V.int))/\0<=x.num/\0<=y.num/\Bd n x/\Bd m y/\n+m<=8000 /\
 ∀r H',n8 H H'->H' r=some (.tup ((fr (x*y)).map V.int))->Q (.ref r) H'
abbrev sW:Stmt:=top 20
theorem Df:B1 ["one","other"] ["one","other"] (r6 sW):=⟨rfl,rfl,rfl,by decide+kernel,rfl,by decide+kernel,by decide+kernel⟩
theorem Ey (F:Y3 K "times" "times" sW f fd) (c1:S6 P w K mg base 2 "fraction" ["top","bottom"] bA):G7 P w K mg base cQ 3 f fd ["one","other"] iJ:=by
 refine F.ok Df (fun vs H Q E h=>?_) (fun cdv A outer s H vs Q E hr h=>?_)
 ·obtain⟨p,q,x,y,n,m,rfl,_⟩:=h
  rfl
 obtain⟨p,q,x,y,n,m,rfl,hp,hq,x0,y0,bx,by',hnm,k⟩:=h
 refine⟨_,n6 (A5 (B0 c1 hr rfl (b8 (J6 kU (K5 ah (pv 0) t8 (fun _ _=>rfl)) (K5 ah (pv 1) t8 (fun _ _=>rfl))) (b8 (J6 kU (K5 ah (pv 0) t8 (fun _ _=>rfl)) (K5 ah (pv 1) t8 (fun _ _=>rfl))) f7)))),?_⟩
 have hp':H p=some (.tup [.int x.num,.int x.den]):=hp
 have hq':H q=some (.tup [.int y.num,.int y.den]):=hq
 have b1:G3 x.num<=2 ^ 20:=fB bx.num (by lia)
 have b2:G3 y.num<=2 ^ 20:=fB by'.num (by lia)
 have b3:G3 (x.den:Int)<=2 ^ 20:=fB (by rw[cf];exact bx.den) (by lia)
 have b4:G3 (y.den:Int)<=2 ^ 20:=fB (by rw[cf];exact by'.den) (by lia)
 refine⟨_,rfl,p,_,_,_,rfl,rfl,.of hp',F6 (j:=0) rfl,_,rfl,q,_,_,_,rfl,rfl,.of hq',F6 (j:=0) rfl,_,_,rfl,rfl,⟨b1,b2⟩,
  _,rfl,p,_,_,_,rfl,rfl,.of hp',F6 (j:=1) rfl,_,rfl,q,_,_,_,rfl,rfl,.of hq',F6 (j:=1) rfl,_,_,rfl,rfl,⟨b3,b4⟩,_,_,rfl,uV x0 y0,?_,?_,?_⟩
 ·have h1:=x.den_nz;have h2:=y.den_nz
  have:=ij (bX h1) (bX h2)
  rw[<- jD];lia
 ·rw[ez (by have h1:=x.den_nz;have h2:=y.den_nz;rw[kJ];exact jC (by lia) (by lia)),kJ]
  refine K6 (F5 bx.den by'.den) ?_
  rw[<- N8]
  exact eh (by decide) (by lia)
 ·rw[IE];exact k
def nP:Sp:=fun vs H Q _=>∃(p q:Addr) (x y:Rat) (n m:Nat),vs=[.ref p,.ref q]/\H p=some (.tup ((fr x).map V.int))/\H q=some (.tup ((fr y).map V.int))/\0<=x.num/\0<=y.num/\Bd n x/\Bd m y/\n+m<=8000 /\
 ∀r H',n8 H H'->H' r=some (.tup ((fr (x+y)).map V.int))->Q (.ref r) H'
abbrev xK:Stmt:=top 19
theorem GS:B1 ["one","other"] ["one","other"] (r6 xK):=⟨rfl,rfl,rfl,by decide+kernel,rfl,by decide+kernel,by decide+kernel⟩
theorem HJ (F:Y3 K "plus" "plus" xK f fd) (c1:S6 P w K mg base 2 "fraction" ["top","bottom"] bA):G7 P w K mg base cQ 3 f fd ["one","other"] nP:=by
 refine F.ok GS (fun vs H Q E h=>?_) (fun cdv A outer s H vs Q E hr h=>?_)
 ·obtain⟨p,q,x,y,n,m,rfl,_⟩:=h
  rfl
 obtain⟨p,q,x,y,n,m,rfl,hp,hq,x0,y0,bx,by',hnm,k⟩:=h
 refine⟨_,n6 (A5 (B0 c1 hr rfl (b8 (J6 cE (J6 kU (K5 ah (pv 0) t8 (fun _ _=>rfl)) (K5 ah (pv 1) t8 (fun _ _=>rfl))) (J6 kU (K5 ah (pv 1) t8 (fun _ _=>rfl)) (K5 ah (pv 0) t8 (fun _ _=>rfl)))) (b8 (J6 kU (K5 ah (pv 0) t8 (fun _ _=>rfl)) (K5 ah (pv 1) t8 (fun _ _=>rfl))) f7)))),?_⟩
 have hp':H p=some (.tup [.int x.num,.int x.den]):=hp
 have hq':H q=some (.tup [.int y.num,.int y.den]):=hq
 have b1:G3 x.num<=2 ^ 20:=fB bx.num (by lia)
 have b2:G3 y.num<=2 ^ 20:=fB by'.num (by lia)
 have b3:G3 (x.den:Int)<=2 ^ 20:=fB (by rw[cf];exact bx.den) (by lia)
 have b4:G3 (y.den:Int)<=2 ^ 20:=fB (by rw[cf];exact by'.den) (by lia)
 refine⟨_,rfl,p,_,_,_,rfl,rfl,.of hp',F6 (j:=0) rfl,_,rfl,q,_,_,_,rfl,rfl,.of hq',F6 (j:=1) rfl,_,_,rfl,rfl,⟨b1,b4⟩,
  _,rfl,q,_,_,_,rfl,rfl,.of hq',F6 (j:=0) rfl,_,rfl,p,_,_,_,rfl,rfl,.of hp',F6 (j:=1) rfl,_,_,rfl,rfl,⟨b2,b3⟩,_,_,rfl,rfl,
  _,rfl,p,_,_,_,rfl,rfl,.of hp',F6 (j:=1) rfl,_,rfl,q,_,_,_,rfl,rfl,.of hq',F6 (j:=1) rfl,_,_,rfl,rfl,⟨b3,b4⟩,_,_,rfl,?_,?_,?_,?_⟩
 ·exact Int.add_nonneg (uV x0 (by lia)) (uV y0 (by lia))
 ·have h1:=x.den_nz;have h2:=y.den_nz
  have:=ij (bX h1) (bX h2)
  rw[<- jD];lia
 ·rw[ez (by have h1:=x.den_nz;have h2:=y.den_nz;rw[kJ];exact jC (by lia) (by lia)),kJ]
  refine K6 (F5 bx.den by'.den) ?_
  rw[<- N8]
  exact eh (by decide) (by lia)
 ·rw[IG];exact k
def kM:Sp:=fun vs H Q _=>∃(a:Addr) (ys:List V) (xs:List Rat) (N B n:Nat),vs=[.ref a]/\H a=some (.lst ys)/\mB H xs ys/\(∀x∈xs,Vq N B x)/\0<N/\N*(B*xs.length+B)<=2 ^ n/\N<=2 ^ n/\n<=4000 /\
 ∀r H',n8 H H'->H' r=some (.tup ((fr (gI xs)).map V.int))->Q (.ref r) H'
abbrev sV:Stmt:=top 21
theorem kQ:B1 ["fractions","so_far","part"] ["fractions"] (r6 sV):=⟨rfl,rfl,rfl,by decide+kernel,rfl,by decide+kernel,by decide+kernel⟩
theorem Ex (F:Y3 K "total" "total" sV f fd) (c1:S6 P w K mg base 3 "plus" ["one","other"] nP):G7 P w K mg base cQ 4 f fd ["fractions"] kM:=by
 refine F.ok kQ (fun vs H Q E h=>?_) (fun cdv A outer s H vs Q E hr h=>?_)
 ·obtain⟨a,ys,xs,N,B,n,rfl,_⟩:=h
  rfl
 obtain⟨a,ys,xs,N,B,n,rfl,ha,hx,hv,h0,h1,h2,hn,q⟩:=h
 refine⟨_,j5 (F7 (i:=1) kQ.nd rfl (A4 rfl) (cC (b8 t8 (b8 t8 f7))))
  (j5 (lV Z6 rfl (gR (pv 0)) (R4 (i:=2) kQ.nd rfl (A4 rfl))
   (n6 (F7 (i:=1) kQ.nd rfl (A4 rfl) (B0 c1 hr rfl (b8 (pv 1) (b8 (pv 2) f7))))))
  (n6 (A5 (pv 1)))),?_⟩
 refine⟨(by show 2<=i7;decide),fun c hc=>?_⟩
 have s2:n8 H (A6 H c (.tup [.int 0,.int 1])):=n8.new hc
 refine⟨_,rfl,a,rfl,⟨_,.of (s2 _ _ ha)⟩,?_⟩
 refine vM (K:=K) (a:=a) (xs:=ys) (fun i σ H2=>n8 H H2/\i<=ys.length/\∃c o,σ=[some (.ref a),some (.ref c),o]/\H2 c=some (.tup ((fr (gI (xs.take i))).map V.int)))
  ⟨s2,A7 _,c,none,rfl,j0⟩ (fun i σ H2 _ h=>.of (h.1 _ _ ha)) (fun i t σ H2 ht h=>?_) (fun σ H2 h=>?_)
 ·obtain⟨g2,hi,c,o,rfl,hc2⟩:=h
  obtain⟨x,ex,q',rfl,hq'⟩:=hx.get ht
  have hil:=(List.getElem?_eq_some_iff.mp ex).1
  have v1:Vq N B x:=hv x (y8 ex)
  have v2:Vq N (B*xs.length) (gI (xs.take i)):=(sC fun y hy=>hv y (aQ hy)).mono (Q7 _ (by rw[F9];lia))
  have d1:Bd n x:=v1.bd h0 (j9 (Q7 _ (av _ _)) h1) h2
  have d2:Bd n (gI (xs.take i)):=v2.bd h0 (j9 (Q7 _ (M3 _ _)) h1) h2
  refine⟨_,rfl,_,rfl,c,q',gI (xs.take i),x,n,n,rfl,hc2,g2 _ _ hq',Rat.num_nonneg.mpr v2.nn,Rat.num_nonneg.mpr v1.nn,d2,d1,by lia,fun r H3 g3 hr3=>⟨g2.trans g3,(List.getElem?_eq_some_iff.mp ht).1,r,_,rfl,?_⟩⟩
  rw[D1,ex]
  show _=some (HO.tup ((fr (gI (xs.take i++[x]))).map V.int))
  rw[AH];exact hr3
 ·obtain⟨g2,_,c,o,rfl,hc2⟩:=h
  rw[hx.len,N9] at hc2
  exact⟨_,rfl,q c H2 g2 hc2⟩
def kN:Sp:=fun vs H Q _=>∃(a:Addr) (n m:Nat) (ns:List Int) (k:Nat),vs=[.ref a,.int k]/\H a=some (.tup (ns.map V.int))/\Mt.gx n m ns/\n<=4/\m<=1000/\k<n/\∀p H',n8 H H'->H' p=some (.tup ((fr (Mt.fZ ns k)).map V.int))->Q (.ref p) H'
abbrev sY:Stmt:=top 33
theorem Dg:B1 ["urn","kind"] ["urn","kind"] (r6 sY):=⟨rfl,rfl,rfl,by decide+kernel,rfl,by decide+kernel,by decide+kernel⟩
theorem EA (F:Y3 K "share" "share" sY f fd) (B:Bt mg) (c1:S6 P w K mg base 2 "fraction" ["top","bottom"] bA):G7 P w K mg base cQ 3 f fd ["urn","kind"] kN:=by
 refine F.ok Dg (fun vs H Q E h=>?_) (fun cdv A outer s H vs Q E hr h=>?_)
 ·obtain⟨a,n,m,ns,k,rfl,_⟩:=h
  rfl
 obtain⟨a,n,m,ns,k,rfl,ha,hu,h4,hm,hk,q⟩:=h
 refine⟨_,n6 (A5 (B0 c1 hr rfl (b8 (K5 ah (pv 0) (pv 1) (fun _ _=>rfl)) (b8 (A1 (bS rfl) rfl B.sum Ap (b8 (pv 0) f7)) f7)))),?_⟩
 have h2:=gx.sum_le hu h4
 have h3:=hu.pos
 refine⟨_,rfl,_,rfl,a,_,_,_,rfl,rfl,.of ha,nZ (by rw[hu.len];exact hk),_,rfl,a,ns,rfl,.inr (.of ha),_,_,rfl,(hu.getD k).1,h3,ET (n:=12) h3 (by show _<=4096;lia) (by lia),q⟩
def jn:Sp:=fun vs H Q _=>∃(a st:Addr) (v:V) (n j:Nat) (ns:List Int) (rs:List (List Int)) (k:Nat),vs=[.ref a,v,.int k]/\H a=some (.tup (ns.map V.int))/\ns.length=n/\Dt st H (DR rs) v/\Mt.kB n j rs/\n<=4/\k<n /\
 ∀p H',n8 H H'->H' p=some (.tup ((Y8 ns (rs.getD k [])).map V.int))->Q (.ref p) H'
abbrev oJ:Stmt:=top 34
theorem AL:B1 ["urn","rule","kind"] ["urn","rule","kind"] (r6 oJ):=⟨rfl,rfl,rfl,by decide+kernel,rfl,by decide+kernel,by decide+kernel⟩
theorem AX (F:Y3 K "put_in" "put_in" oJ f fd) (B:Bt mg):G7 P w K mg base cQ 1 f fd ["urn","rule","kind"] jn:=by
 refine F.ok AL (fun vs H Q E h=>?_) (fun cdv A outer s H vs Q E hr h=>?_)
 ·obtain⟨a,st,v,n,j,ns,rs,k,rfl,_⟩:=h
  rfl
 obtain⟨a,st,v,n,j,ns,rs,k,rfl,ha,hn,hd,hru,h4,hk,q⟩:=h
 refine⟨_,n6 (A5 (D9 M9 rfl B.tuple R3 (b8 (O1 (N:=["balls","more"]) (ix:=[none,none]) (ifs:=[]) (tc:=T5) rfl
   (Le rfl B.zip (b8 (pv 0) (b8 (K5 ah (pv 1) (pv 2) (fun _ _=>rfl)) f7)))
   (fun s H ex=>Ec (K:=K) (n:=2) rfl rfl (L9 (bz (i:=0) (by decide+kernel) rfl (A4 rfl) (.inr rfl)) (L9 (bz (i:=1) (by decide+kernel) rfl (A4 rfl) (.inr rfl)) bQ))) (fun s H ex=>L8)
   (fun s H ex=>J6 cE (pv 0) (pv 1)) rfl (by decide+kernel) (by rfl) (by rfl) (fun _=>rfl)) f7))),?_⟩
 obtain⟨r,xs,b,e,hr2,hx,hb⟩:=Mi hd (by rw[hru.len];exact hk)
 subst e
 have hrow:=hru.at hk
 generalize hrw:rs.getD k []=row at *
 refine⟨_,rfl,_,rfl,_,rfl,r,_,_,_,rfl,rfl,.of hr2,F6 hx,a,b,_,_,rfl,.of ha,.of hb,?_⟩
 have l1:ns.length=row.length:=by rw[hn,hrow.len]
 refine IJ (K:=K) (a:=a) (b:=b) (xs:=ns.map V.int) (ys:=row.map V.int) (sz (by rw[d8];lia)) (by rw[d8,d8];exact l1)
  (fun i zs H2=>n8 H H2/\i<=n/\zs=((Y8 ns row).take i).map V.int) ⟨n8.refl H,A7 _,rfl⟩ (fun i zs H2 h=>?_) (fun i zs H2 _ h=>⟨.of (h.1 _ _ ha),.of (h.1 _ _ hb)⟩) ⟨rfl,rfl⟩ (fun i zs H2 x y p hx hy hp h=>?_) (fun zs H2 h=>?_)
 ·obtain⟨_,hil,rfl⟩:=h
  have:(Y8 ns row).length=n:=by unfold Y8;rw[eX,<- l1,hn];lia
  rw[d8,F9,this];lia
 ·obtain⟨hS,hil,rfl⟩:=h
  have hi:i<ns.length:=by have:=(List.getElem?_eq_some_iff.mp hx).1;rwa [d8] at this
  have hi2:i<row.length:=by lia
  rw[v8,i6 hi] at hx
  rw[v8,i6 hi2] at hy
  cases hx
  cases hy
  refine⟨_,rfl,_,rfl,_,_,rfl,rfl,hS.trans (n8.new hp),by lia,?_⟩
  have e:(Y8 ns row)[i]?=some (ns[i]+row[i]):=by
   unfold Y8;rw[AA,i6 hi,i6 hi2]
  rw[D1,e,w5];rfl
 ·obtain⟨hS,hil,rfl⟩:=h
  intro p hp
  refine⟨p,_,rfl,.inl ⟨.of j0,fun l hl=>?_⟩⟩
  refine q l _ ((hS.trans (n8.new hp)).trans (n8.new hl)) ?_
  rw[j0,d8]
  have:(Y8 ns row).length=ns.length:=by unfold Y8;rw[eX,<- l1];lia
  rw[<- this,N9]
def jP:Sp:=fun vs H Q _=>∃(a:Addr) (xs:List V),vs=[.ref a]/\H a=some (.tup xs)/\∀p H',n8 H H'->H' p=some (.tup xs)->Q (.ref p) H'
abbrev lQ:Stmt:=top 35
theorem xF:B1 ["urn"] ["urn"] (r6 lQ):=⟨rfl,rfl,rfl,by decide+kernel,rfl,by decide+kernel,by decide+kernel⟩
theorem yc (F:Y3 K "own_urn" "own_urn" lQ f fd) (B:Bt mg):G7 P w K mg base cQ 1 f fd ["urn"] jP:=by
 refine F.ok xF (fun vs H Q E h=>?_) (fun cdv A outer s H vs Q E hr h=>?_)
 ·obtain⟨a,xs,rfl,_⟩:=h
  rfl
 obtain⟨a,xs,rfl,ha,q⟩:=h
 refine⟨_,n6 (A5 (D9 M9 rfl B.tuple R3 (b8 (D9 ug rfl B.list boot_list (b8 (pv 0) f7)) f7))),?_⟩
 refine⟨_,rfl,a,_,rfl,.inr (.of ha),fun l hl=>⟨l,_,rfl,.inl ⟨.of j0,fun p hp=>?_⟩⟩⟩
 exact q p _ ((n8.new hl).trans (n8.new hp)) j0
def xn:Sp:=fun vs H Q _=>∃(a st:Addr) (v:V) (n:Nat) (ns:List Int) (rs:List (List Int)),vs=[.ref a,v]/\H a=some (.tup (ns.map V.int))/\ns.length=n/\Dt st H (DR rs) v/\Mt.kB n 5 rs/\n<=4 /\
 ∀p H' ts,n8 H H'->H' p=some (.lst ts)->cu H' (qY rs ns) ts->Q (.ref p) H'
abbrev Dr:Stmt:=top 40
theorem Ko:B1 ["urn","rule"] ["urn","rule"] (r6 Dr):=⟨rfl,rfl,rfl,by decide+kernel,rfl,by decide+kernel,by decide+kernel⟩
theorem Lk (F:Y3 K "urns_behind_one" "urns_behind_one" Dr f fd) (B3:Nb mg) (c1:S6 P w K mg base 1 "put_in" ["urn","rule","kind"] jn):G7 P w K mg base cQ 2 f fd ["urn","rule"] xn:=by
 refine F.ok Ko (fun vs H Q E h=>?_) (fun cdv A outer s H vs Q E hr h=>?_)
 ·obtain⟨a,st,v,n,ns,rs,rfl,_⟩:=h
  rfl
 obtain⟨a,st,v,n,ns,rs,rfl,ha,hn,hv,hR,n4,q⟩:=h
 refine⟨_,n6 (A5 (O1 (N:=["kind","balls","urn","rule"]) (ix:=[none,none,some 0,some 1]) rfl
   (Eb rfl B3.enumerate (b8 (pv 0) f7))
   (fun s H ex=>Ec (K:=K) (n:=2) rfl rfl (L9 (bz (i:=0) (by decide+kernel) rfl (A4 rfl) (.inr rfl)) (L9 (bz (i:=1) (by decide+kernel) rfl (A4 rfl) (.inr rfl)) bQ)))
   (fun s H ex=>DY (E4 zG (pv 1) t8 (G0 _)))
   (fun s H ex=>cC (b8 (pv 1) (b8 (B0 c1 hr rfl (b8 (pv 2) (b8 (pv 3) (b8 (pv 0) f7)))) f7))) rfl (by decide+kernel) (by rfl) (by rfl) (fun _=>rfl))),?_⟩
 refine⟨_,rfl,a,_,rfl,.of ha,?_⟩
 refine FN (K:=K) (a:=a) (xs:=ns.map V.int) (sz (by rw[d8];lia)) (fun i ys H2=>n8 H H2/\i<=n/\cu H2 (eE rs ns 0 (ns.take i)) ys) ⟨n8.refl H,A7 _,rfl⟩ (fun i ys H2 h=>?_) (fun i ys H2 _ h=>.of (h.1 _ _ ha)) ⟨rfl,rfl⟩ (fun i ys H2 x p hx hp h=>?_) (fun ys H2 h=>?_)
 ·obtain⟨_,_,h2⟩:=h
  rw[h2.len]
  have:=pM (rs:=rs) (u:=ns) (ns.take i) 0
  rw[F9] at this
  lia
 ·obtain⟨g2,hi,h2⟩:=h
  rw[v8] at hx
  obtain⟨b,hb,eb⟩:=Option.map_eq_some_iff.mp hx
  subst eb
  have hil:=(List.getElem?_eq_some_iff.mp hb).1
  have g3:=g2.trans (n8.new hp (o:=.tup [.int i,.int b]))
  have h3:=h2.mono (fun a xs e=>n8.new (o:=.tup [.int i,.int b]) hp _ _ e)
  generalize A6 H2 p (.tup [.int i,.int b])=H3 at g3 h3
  have et:eE rs ns 0 (ns.take (i+1))=eE rs ns 0 (ns.take i)++(if 0<b then [(b,Y8 ns (rs.getD i []))] else []):=by
   rw[D1,hb]
   show eE rs ns 0 (ns.take i++[b])=_
   rw[qX,F9,br,MI (by lia)]
  refine⟨_,rfl,_,_,rfl,rfl,_,rfl,?_⟩
  by_cases hb0:0<b
  ·rw[if_pos hb0] at et
   rw[decide_eq_true (show b > 0 from hb0),if_pos rfl]
   refine⟨_,rfl,_,rfl,_,rfl,_,rfl,a,st,v,n,5,ns,rs,i,rfl,g3 _ _ ha,hn,hv.kp (g3.kp st),hR,n4,by lia,fun w H4 g4 hw=>⟨(by show 2<=i7;decide),fun q' hq'=>⟨(g3.trans g4).trans (n8.new hq'),by lia,?_⟩⟩⟩
   rw[et]
   refine cu.snoc (b:=(b,Y8 ns (rs.getD i []))) (w:=w) j0 ?_ (h3.mono fun a xs e=>(g4.trans (n8.new hq')) _ _ e)
   exact n8.new hq' _ _ hw
  ·rw[if_neg hb0,S8] at et
   rw[decide_eq_false (show ¬ b > 0 from hb0),if_neg u7]
   exact⟨g3,by lia,by rw[et];exact h3⟩
 ·obtain⟨g2,_,h2⟩:=h
  intro p hp
  rw[d8,N9] at h2
  exact q p _ ys (g2.trans (n8.new hp)) j0 (h2.mono fun a xs e=>n8.new hp _ _ e)
end
noncomputable def BQ (H:Hp):Q2->List V->Prop
 | [],[]=>True
 | p::T,y::ys=>(∃r ka q,y=.ref r/\H r=some (.tup [.ref ka,.ref q])/\H ka=some (.tup (p.1.map V.int))/\H q=some (.tup ((fr p.2).map V.int)))/\BQ H T ys
 | _,_=>False
theorem BQ.same {H H':Hp} (g:n8 H H'):∀{T:Q2}{ys:List V},BQ H T ys->BQ H' T ys
 | [],[],_=>trivial
 | _::_,_::_,h=>⟨let ⟨r,ka,q,e,a,b,c⟩:=h.1;⟨r,ka,q,e,g _ _ a,g _ _ b,g _ _ c⟩,BQ.same g h.2⟩
 | [],_::_,h=>h.elim
 | _::_,[],h=>h.elim
theorem BQ.len {H:Hp}:∀{T:Q2}{ys:List V},BQ H T ys->ys.length=T.length
 | [],[],_=>rfl
 | _::_,_::_,h=>by rw[m8,m8,BQ.len h.2]
 | [],_::_,h=>h.elim
 | _::_,[],h=>h.elim
theorem BQ.get {H:Hp}:∀{T:Q2}{ys:List V}{i:Nat}{y:V},BQ H T ys->ys[i]?=some y->∃p r ka q,T[i]?=some p/\y=.ref r/\H r=some (.tup [.ref ka,.ref q])/\H ka=some (.tup (p.1.map V.int))/\H q=some (.tup ((fr p.2).map V.int))
 | p::_,_::_,0,_,h,e=>by
  obtain⟨r,ka,q,e1,a,b,c⟩:=h.1
  cases e
  exact⟨p,r,ka,q,rfl,e1,a,b,c⟩
 | _::_,_::_,i+1,_,h,e=>BQ.get (i:=i) h.2 (by simpa using e)
 | [],[],_,_,_,e=>by simp at e
 | [],_::_,_,_,h,_=>h.elim
 | _::_,[],_,_,h,_=>h.elim
theorem BQ.of {H:Hp}:∀{T:Q2}{kvs:List (List O4 × V)}{ys:List V},QE H T kvs->Mw H kvs ys->BQ H T ys
 | [],[],[],_,_=>trivial
 | p::T,kv::kvs,y::ys,⟨a,⟨q,e,hq⟩,c⟩,h=>by
  obtain⟨k,x⟩:=kv
  obtain⟨r,ka,e1,h1,h2⟩:=h.1
  have a:k=kI p.1:=a
  have e:x=.ref q:=e
  subst a e
  rw[zN] at h2
  exact⟨⟨r,ka,q,e1,h1,h2,hq⟩,BQ.of c h.2⟩
 | [],[],_::_,_,h=>h.elim
 | [],_::_,_,h,_=>h.elim
 | _::_,[],_,h,_=>h.elim
 | _::_,_::_,[],_,h=>h.elim
theorem tW {l:Addr}{H H':Hp}{o:HO} (hl:H l=some o) (ho:∀xs,o≠.tup xs) (k:Kp l H H'):∀a xs,H a=some (.tup xs)->H' a=some (.tup xs):=fun a xs e=>k a _ (fun z=>by rw[z,hl] at e;injection e with e;exact ho _ e) e
section
variable {P:i8}{w:t9}{K:j7}{mg:Str->Option b9}{base:Heap}{f:Addr}{fd:A9}{ec:Nat->Addr}{Bs:Addr}
def oB:Sp:=fun vs H Q _=>∃(d st:Addr) (v:V) (n m N E:Nat) (T:Q2) (kvs:List (List O4 × V)) (rs:List (List Int)),vs=[.ref d,v]/\H d=some (.dT kvs)/\QE H T kvs/\fE n m T/\m<=50/\T.length<=1024/\fe N E T/\0<N/\N<=2 ^ 1600/\E<=2 ^ 60/\Dt st H (DR rs) v/\Mt.kB n 5 rs/\n<=4 /\
 ∀p kvs' H',Kp d H H'->H p=none->H' p=some (.dT kvs')->QE H' (pC rs T) kvs'->Q (.ref p) H'
abbrev sZ:Stmt:=top 41
theorem eI:B1 ["chances","rule","later","urn","so_far","balls","behind","part"] ["chances","rule"] (r6 sZ):=⟨rfl,rfl,rfl,by decide+kernel,rfl,by decide+kernel,by decide+kernel⟩
theorem EB (F:Y3 K "next_chances" "next_chances" sZ f fd) (B:Bt mg) (c1:S6 P w K mg base 2 "urns_behind_one" ["urn","rule"] xn) (c2:S6 P w K mg base 3 "times" ["one","other"] iJ) (c3:S6 P w K mg base 2 "fraction" ["top","bottom"] bA) (c4:S6 P w K mg base 3 "plus" ["one","other"] nP):G7 P w K mg base cQ 4 f fd ["chances","rule"] oB:=by
 refine F.ok eI (fun vs H Q E h=>?_) (fun cdv A outer s H vs Q E hr h=>?_)
 ·obtain⟨d,st,v,n,m,N,E,T,kvs,rs,rfl,_⟩:=h
  rfl
 obtain⟨d,st,v,n,m,N,En,T,kvs,rs,rfl,hd,hQ,hK,hm,hT,hE,hN0,hN,hEn,hv,hR,n4,q⟩:=h
 refine⟨_,j5 (F7 (i:=2) eI.nd rfl (A4 rfl) Eh)
  (j5 (lV Z6 rfl (Ea (pv 0)) (jW rfl (L9 (R4 (i:=3) eI.nd rfl (A4 rfl)) (L9 (R4 (i:=4) eI.nd rfl (A4 rfl)) bQ)))
   (n6 (lV Z6 rfl (gR (B0 (c1.up (by decide)) hr rfl (b8 (pv 3) (b8 (pv 1) f7)))) (jW rfl (L9 (R4 (i:=5) eI.nd rfl (A4 rfl)) (L9 (R4 (i:=6) eI.nd rfl (A4 rfl)) bQ)))
    (j5 (F7 (i:=7) eI.nd rfl (A4 rfl) (B0 c2 hr rfl (b8 (pv 4) (b8 (B0 (c3.up (by decide)) hr rfl (b8 (pv 5) (b8 (A1 (bS rfl) rfl B.sum Ap (b8 (pv 3) f7)) f7))) f7))))
    (n6 (tF (fq hr) (pv 2) (pv 6) (B0 c4 hr rfl (b8 (Ei (fq hr) (pv 2) (pv 6) (cC (b8 t8 (b8 t8 f7))) ⟨rfl,rfl,rfl,rfl⟩) (b8 (pv 7) f7))) rfl))))))
  (n6 (A5 (pv 2)))),?_⟩
 have hv0:=FZ hd hv
 have hpos:∀p∈T,(∀b∈p.1,0<=b)/\0<p.1.sum:=fun p hp=>⟨fun b hb=>((hK p hp).nn b hb).1,(hK p hp).pos⟩
 intro lt hlt
 have nlt:d≠lt:=u9 hd hlt
 have nfz:∀(o:Obj) (ps:List (List O4 × V)) xs,HO.frz o (.dT ps)≠.tup xs:=fun _ _ _ z=>by cases z
 have ndt:∀(ps:List (List O4 × V)) xs,HO.dT ps≠.tup xs:=fun _ _ z=>by cases z
 refine⟨_,rfl,d,kvs,rfl,(by rw[v9 nlt];exact hd),fun o=>?_⟩
 have k0:Kp d H (A6 (A6 H lt (.dT [])) d (.frz o (.dT kvs))):=fun b u nb e=>by rw[v9 nb,v9 (u9 e hlt)];exact e
 refine Br (o:=o) (fun i σ H2=>Kp d H H2/\H2 d=some (.frz o (.dT kvs))/\(∃ks,H2 lt=some (.dT ks)/\QE H2 (U7 rs (T.take i) []) ks)/\i<=T.length/\∃o3 o4 o5 o6 o7,σ=[some (.ref d),some v,some (.ref lt),o3,o4,o5,o6,o7])
  ⟨k0,j0,⟨[],by rw[v9 nlt.symm,j0],trivial⟩,A7 _,none,none,none,none,none,rfl⟩ (fun i σ H2 _ h=>h.2.1) (fun i k x σ H2 p ka hx hp hka h=>?_) (fun σ H2 h=>?_)
 ·obtain⟨k2,hd2,⟨ks2,hl2,hq2⟩,hi,o3,o4,o5,o6,o7,rfl⟩:=h
  obtain⟨um,hum,ek,xq,ex,hxq⟩:=hQ.get hx
  subst ek ex
  obtain⟨u,mm⟩:=um
  simp only at hka hxq
  have hil:=(List.getElem?_eq_some_iff.mp hum).1
  have hku:Mt.gx n m u:=hK (u,mm) (y8 hum)
  have hmm:Vq N En mm:=hE (u,mm) (y8 hum)
  rw[zN] at hka
  refine⟨p,_,rfl,.of j0,rfl,_,_,rfl,_,_,rfl,rfl,?_⟩
  have g3:n8 H2 (A6 H2 p (.tup [.ref ka,.ref xq])):=n8.new hp
  show NF _ _ _ _ _ (A6 H2 p (.tup [.ref ka,.ref xq]))
  generalize A6 H2 p (.tup [.ref ka,.ref xq])=H3 at g3
  have k3:Kp d H H3:=k2.trans (g3.kp d)
  refine⟨_,rfl,_,rfl,ka,d,v,n,u,rs,rfl,g3 _ _ hka,hku.len,hv0.kp k3,hR,n4,fun pl H4 ts g4 hpl hts=>⟨pl,rfl,⟨_,.of hpl⟩,?_⟩⟩
  have k4:Kp d H H4:=k3.trans (g4.kp d)
  have hl4:=g4 _ _ (g3 _ _ hl2)
  have hd4:=g4 _ _ (g3 _ _ hd2)
  have hq4:QE H4 (U7 rs (T.take i) []) ks2:=hq2.mono fun a xs e=>g4 _ _ (g3 _ _ e)
  have hx4:H4 xq=some (.tup ((fr mm).map V.int)):=tW hd (ndt _) k4 _ _ hxq
  have hka4:H4 ka=some (.tup (u.map V.int)):=g4 _ _ (g3 _ _ hka)
  obtain⟨kk1,kk2,kk3,kk4⟩:=md (D:=[]) (B:=0) hR n4 hm (T.take i) (fun q hq=>hK q (aQ hq)) (fun q hq=>hE q (aQ hq)) (fun p hp=>by simp at hp) (by unfold uN;simp) (fun p hp=>by simp at hp)
  have hti:(T.take i).length<=1024:=by rw[F9];lia
  have hle:(U7 rs (T.take i) []).length<=4*1024:=j9 kk4 (by rw[X6,br];exact F5 n4 hti)
  have hbs:(qY rs u).length<=4:=j9 (zL hku) n4
  have hs0:=hku.pos
  have hs1:=sA hku n4 hm
  refine vM (K:=K) (a:=pl) (xs:=ts) (fun j σ H5=>Kp lt H4 H5/\(∃ks,H5 lt=some (.dT ks)/\QE H5 (aX mm u.sum ((qY rs u).take j) (U7 rs (T.take i) [])) ks)/\j<=ts.length/\∃o5 o6 o7,σ=[some (.ref d),some v,some (.ref lt),some (.ref ka),some (.ref xq),o5,o6,o7])
   ⟨Kp.refl _ _,⟨ks2,hl4,hq4⟩,A7 _,o5,o6,o7,rfl⟩ (fun j σ H5 _ h=>.of (h.1 _ _ (gn hpl hl4 (by intro z;cases z)) hpl)) (fun j t σ H5 ht h=>?_) (fun σ H5 h=>?_)
  ·obtain⟨k5,⟨ks5,hl5,hq5⟩,hj,o5,o6,o7,rfl⟩:=h
   obtain⟨b,q',w',hb,rfl,hq',hw'⟩:=hts.get ht
   have hjl:=(List.getElem?_eq_some_iff.mp ht).1
   have t45:=tW hl4 (ndt _) k5
   have hp5:=t45 _ _ hq'
   have hw5:=t45 _ _ hw'
   have hx5:=t45 _ _ hx4
   have hka5:=t45 _ _ hka4
   obtain⟨bb,bu⟩:=pE hR hku (y8 hb)
   obtain⟨pp1,pp2,pp3,pp4⟩:=oS (m:=m+5) hmm hs0 hs1 ((qY rs u).take j) (fun c hc=>pE hR hku (aQ hc)) kk1 kk2 kk3
   have hjt:((qY rs u).take j).length<=4:=by rw[F9];lia
   have hlen:(aX mm u.sum ((qY rs u).take j) (U7 rs (T.take i) [])).length<=10000:=by lia
   have cv:Vq LL 1 (cut b.1 u.sum):=yC (by lia) bb.2 hs0 hs1
   have cb:Bd 12 (cut b.1 u.sum):=Bd.cut hs0 (by show _<=4096;lia) (by show _<=4096;lia)
   have pv':Vq (N*LL) En (mm*cut b.1 u.sum):=(hmm.mul cv).mono (by lia)
   have hNL:N*LL<=2 ^ 1900:=by
    have:(2:Nat) ^ 1900=2 ^ 1600*2 ^ 300:=by rw[<- N8]
    rw[this];exact F5 hN FX
   have hNL0:0<N*LL:=ij hN0 yP
   have big:∀X:Nat,X<=2 ^ 60*2 ^ 13->N*LL*X<=2 ^ 1973:=fun X hX=>by
    have:(2:Nat) ^ 1973=2 ^ 1900*(2 ^ 60*2 ^ 13):=by rw[<- N8,<- N8]
    rw[this];exact F5 hNL hX
   have hNL2:N*LL<=2 ^ 1973:=j9 hNL (B9 (by decide) (by decide))
   have d1:Bd 1660 mm:=hmm.bd hN0 (by
    have:(2:Nat) ^ 1660=2 ^ 1600*2 ^ 60:=by rw[<- N8]
    rw[this];exact F5 hN hEn) (j9 hN (B9 (by decide) (by decide)))
   have d2:Bd 1973 (mm*cut b.1 u.sum):=pv'.bd hNL0 (big _ (j9 hEn (Nat.le_mul_of_pos_right _ (by decide)))) hNL2
   have vv:=pp3.val (k:=b.2)
   have d3:Bd 1973 (oo (aX mm u.sum ((qY rs u).take j) (U7 rs (T.take i) [])) b.2):=vv.bd hNL0 (big _ (by
    have e1:0+En*(4*(T.take i).length)+En*((qY rs u).take j).length<=En*(2 ^ 13):=by
     rw[br,<- Y0];exact Q7 _ (by lia)
    exact j9 e1 (Nat.mul_le_mul_right _ hEn))) hNL2
   refine⟨q',_,rfl,.of hp5,rfl,_,_,rfl,_,_,rfl,rfl,?_⟩
   have hw5':H5 w'=some (.tup ((kI b.2).map kV)):=by rw[zN];exact hw5
   refine⟨_,rfl,_,rfl,_,rfl,ka,u,rfl,.inr (.of hka5),b.1,u.sum,rfl,by lia,hs0,ET (n:=12) hs0 (by show _<=4096;lia) (by decide),fun p6 H6 g6 hp6=>?_⟩
   refine⟨xq,p6,mm,cut b.1 u.sum,1660,12,rfl,g6 _ _ hx5,hp6,Rat.num_nonneg.mpr hmm.nn,Rat.num_nonneg.mpr cv.nn,d1,cb,by decide,fun p7 H7 g7 hp7=>?_⟩
   have g57:=g6.trans g7
   have hl7:=g57 _ _ hl5
   have hw7:=g57 _ _ hw5'
   refine⟨_,rfl,lt,rfl,.inr ⟨_,.inl hl7⟩,_,rfl,(by show 2<=i7;decide),fun p8 hp8=>?_⟩
   have g8:n8 H7 (A6 H7 p8 (.tup [.int 0,.int 1])):=n8.new hp8
   have hz8:mC (A6 H7 p8 (.tup [.int 0,.int 1])) 0 (.ref p8):=⟨p8,rfl,j0⟩
   try dsimp -proj only
   generalize A6 H7 p8 (.tup [.int 0,.int 1])=H8 at g8 hz8
   have hl8:=g8 _ _ hl7
   have hw8:=g8 _ _ hw7
   have hq8:QE H8 (aX mm u.sum ((qY rs u).take j) (U7 rs (T.take i) [])) ks5:=hq5.mono fun a xs e=>g8 _ _ (g57 _ _ e)
   obtain⟨r8,er8,hr8⟩:=hq8.val (k:=b.2) hz8
   refine⟨_,cG.t hl8 hw8,?_⟩
   rw[er8]
   refine⟨_,rfl,r8,p7,_,mm*cut b.1 u.sum,1973,1973,rfl,hr8,g8 _ _ hp7,Rat.num_nonneg.mpr vv.nn,Rat.num_nonneg.mpr pv'.nn,d3,d2,by decide,fun p9 H9 g9 hp9=>?_⟩
   have g59:n8 H5 H9:=g57.trans (g8.trans g9)
   have hl9:=g9 _ _ hl8
   have hw9:=g9 _ _ hw8
   have hq9:QE H9 (aX mm u.sum ((qY rs u).take j) (U7 rs (T.take i) [])) ks5:=hq8.mono fun a xs e=>g9 _ _ e
   refine⟨_,rfl,_,rfl,lt,_,rfl,uz.t hl9 hw9 (by rw[hq9.len];exact AJ hlen),?_⟩
   have hq10:=hq9.put (k:=b.2) (x:=mm*cut b.1 u.sum) (v:=.ref p9) pp2 ⟨p9,rfl,hp9⟩
   have k10:Kp lt H4 (A6 H9 lt (.dT (putK ks5 (kI b.2) (.ref p9)))):=(k5.trans (g59.kp lt)).trans Kp.at
   refine⟨k10,⟨_,j0,?_⟩,hjl,_,_,_,rfl⟩
   rw[D1,hb]
   show QE _ (aX mm u.sum ((qY rs u).take j++[b]) _) _
   rw[oU]
   exact hq10.mono (tW hl9 (ndt _) Kp.at)
  ·obtain⟨k5,⟨ks5,hl5,hq5⟩,_,o5,o6,o7,rfl⟩:=h
   have hlt2:H lt=none:=hlt
   refine⟨fun c o nc e=>k5 _ _ (u9 e hlt2) (k4 _ _ nc e),k5 _ _ nlt hd4,⟨ks5,hl5,?_⟩,hil,_,_,_,_,_,rfl⟩
   rw[D1,hum]
   show QE H5 (U7 rs (T.take i++[(u,mm)]) []) ks5
   rw[mO]
   rw[hts.len,N9] at hq5
   exact hq5
 ·obtain⟨k2,hd2,⟨ks2,hl2,hq2⟩,_,o3,o4,o5,o6,o7,rfl⟩:=h
  rw[hQ.len,N9] at hq2
  exact⟨_,rfl,q lt ks2 H2 k2 hlt hl2 hq2⟩
end
theorem fA:Z1 "sorted"=some (bE "sorted"):=by decide+kernel
structure BO (st:Addr) (H:Hp) (n:Nat) (ns:List Int) (rs:List (List Int)) (k:Nat) (a:Addr) (v:V):Prop where
 u:Dt st H (DI ns) (.ref a)
 uu:Mt.gx n 20 ns
 r:Dt st H (DR rs) v
 ru:Mt.kB n 5 rs
 n1:1<=n
 n4:n<=4
 k6:k<=6
 l64:(je rs k [(ns,1)]).length<64
def FY (d e g:C1) (i:Nat):Prop:=(i=0/\Q5 20 d=false) ∨ (i=1/\Q5 20 d=true/\K8 (bI d) e=false) ∨ (i=5/\Q5 20 d=true/\K8 (bI d) e=true/\af 0 6 g=false)
def Mv (ec:Nat->Addr) (vs:List V) (H:Hp) (E:XK):Prop:=∃(st:Addr) (u v x:V) (d e g:C1) (i:Nat),vs=[u,v,x]/\Dt st H d u/\cq d/\Dt st H e v/\tU e/\Dt st H g x/\FY d e g i/\∀H',n8 H H'->E (.ref (ec i)) none H'
section
variable {P:i8}{w:t9}{K:j7}{mg:Str->Option b9}{base:Heap}{f:Addr}{fd:A9}{ec:Nat->Addr}{Bs:Addr}
def Km:Sp:=fun vs H Q _=>∃(st a:Addr) (v:V) (n k:Nat) (ns:List Int) (rs:List (List Int)),vs=[.ref a,v,.int k]/\BO st H n ns rs k a v /\
 ∀D ys T' H',n8 H H'->T'.Perm (je rs k [(ns,1)])->H' D=some (.lst ys)->BQ H' T' ys->Q (.ref D) H'
def rh (ec:Nat->Addr):Sp:=fun vs H Q E=>Mv ec vs H E ∨ Km vs H Q E
abbrev KC:Stmt:=top 42
theorem zm:B1 ["urn","rule","draws","chances","turn"] ["urn","rule","draws"] (r6 KC):=⟨rfl,rfl,rfl,by decide+kernel,rfl,by decide+kernel,by decide+kernel⟩
theorem Os (F:Y3 K "stands" "stands" KC f fd) (B:Bt mg) (B3:Nb mg) (C2:Ct2 mg) (c1:O9 P w K mg base 6 "need_urn_and_rule" ["urn","rule"] (sH ec)) (c2:O9 P w K mg base 2 "need_number" ["thing","low","high"] (ay ec)) (c3:S6 P w K mg base 1 "own_urn" ["urn"] jP) (c4:S6 P w K mg base 4 "next_chances" ["chances","rule"] oB):G7 P w K mg base (cj P w) 7 f fd ["urn","rule","draws"] (rh ec):=by
 refine F.okX zm (fun vs H Q E h=>?_) (fun cdv A outer s H vs Q E hr h=>?_)
 ·rcases h with ⟨st,u,v,x,d,e,g,i,rfl,_⟩|⟨st,a,v,n,k,ns,rs,rfl,_⟩
  ·rfl
  ·rfl
 obtain⟨tw,hW⟩:=C2.stand
 refine⟨_,j5 (X9 (G1 c1 hr rfl K0 (b8 (pv 0) (b8 (pv 1) f7)))) (j5 (X9 (G1 (c2.up (by decide)) hr rfl K0 (b8 (pv 2) (b8 t8 (b8 (O6 (v:=.int 6) rfl hW ⟨tw,rfl⟩) f7)))))
  (qu.nox (j5 (F7 (i:=3) zm.nd rfl (A4 rfl) (Lh (fq hr) (B0 (c3.up (by decide)) hr rfl (b8 (pv 0) f7)) (cC (b8 t8 (b8 t8 f7)))))
  (j5 (lV Z6 rfl (U3 rfl B.range (b8 (pv 2) f7)) (R4 (i:=4) zm.nd rfl (A4 rfl))
   (n6 (F7 (i:=3) zm.nd rfl (A4 rfl) (B0 (c4.up (by decide)) hr rfl (b8 (pv 3) (b8 (pv 1) f7))))))
  (n6 (A5 (A1 (yE rfl hr.units) rfl B3.sorted fA (b8 (Ef (pv 3)) f7)))))))),?_⟩
 rcases h with ⟨st,u,v,x,d,e,g,i,rfl,hu,hus,hv,hvo,hx,due,q⟩|⟨st,a,v,n,k,ns,rs,rfl,hA,q⟩
 ·unfold FY at due
  refine⟨_,rfl,_,rfl,u,v,st,d,e,rfl,hu,hus,hv,hvo,fun hw H1 g1=>?_,fun hw hw2 H1 g1=>?_,fun hw hw2 H1 g1=>?_⟩
  ·rcases due with ⟨rfl,_⟩|⟨_,z,_⟩|⟨_,z,_⟩
   ·exact q H1 g1
   all_goals (rw[hw] at z;cases z)
  ·rcases due with ⟨_,z⟩|⟨rfl,_⟩|⟨_,_,z,_⟩
   ·rw[hw] at z;cases z
   ·exact q H1 g1
   ·rw[hw2] at z;cases z
  ·rcases due with ⟨_,z⟩|⟨_,_,z⟩|⟨rfl,_,_,z⟩
   ·rw[hw] at z;cases z
   ·rw[hw2] at z;cases z
   ·exact⟨_,rfl,x,st,g,0,6,rfl,hx.kp (g1.kp st),NP,NM,(fun zt=>by rw[z] at zt;cases zt),fun _=>q H1 g1⟩
 ·have hU:=hA.uu
  have hR:=hA.ru
  have n1:=hA.n1
  have n4:=hA.n4
  have k6:=hA.k6
  obtain⟨a',e,_,ha⟩:=hA.u.di
  cases e
  have uok:=gG hU n1 n4
  have rok:K8 (bI (DI ns):Int) (DR rs)=true:=by rw[V0,hU.len];exact oQ hR
  have hlen:=hR.len
  refine⟨_,rfl,_,rfl,_,_,st,DI ns,DR rs,rfl,hA.u,W0 (by rw[hU.len];lia),hA.r,⟨oE (by lia),lM hR (by lia)⟩,(fun z=>by rw[uok] at z;cases z),(fun _ z=>by rw[rok] at z;cases z),fun _ _ H1 g1=>?_⟩
  have hwk:af 0 6 (.int (k:Int))=true:=by
   show (decide ((0:Int)<=(k:Int))&&decide ((k:Int)<=6))=true
   rw[decide_eq_true (by lia),decide_eq_true (by lia)];rfl
  refine⟨_,rfl,_,st,.int k,0,6,rfl,Dt.int _ _ _,NP,NM,(fun _=>?_),(fun z=>by rw[hwk] at z;cases z)⟩
  intro p hp
  have g2:n8 H1 (A6 H1 p (.dT [])):=n8.new hp
  have hp2:A6 H1 p (.dT []) p=some (.dT []):=j0
  have hHp:H p=none:=g1.free hp
  generalize A6 H1 p (.dT [])=H2 at g2 hp2
  refine⟨_,rfl,a,_,rfl,g2 _ _ (g1 _ _ ha),fun b H3 g3 hb=>⟨(by show 2<=i7;decide),fun c hc=>?_⟩⟩
  have g4:n8 H3 (A6 H3 c (.tup [.int 1,.int 1])):=n8.new hc
  have hc4:A6 H3 c (.tup [.int 1,.int 1]) c=some (.tup [.int 1,.int 1]):=j0
  try dsimp -proj only
  generalize A6 H3 c (.tup [.int 1,.int 1])=H4 at g4 hc4
  have hp4:=g4 _ _ (g3 _ _ hp2)
  have hb4:=g4 _ _ hb
  have gg:n8 H H4:=((g1.trans g2).trans g3).trans g4
  refine⟨hp4,b,kI ns,rfl,by rw[zN];exact hb4,?_⟩
  have ndt:∀(ps:List (List O4 × V)) xs,HO.dT ps≠.tup xs:=fun _ _ z=>by cases z
  have wo:=fun j hj=>mY hR n4 hU j hj
  refine⟨_,rfl,(k:Int),rfl,by lia,by lia,?_⟩
  refine mv (lo:=0) (n:=k) (fun j σ H3=>n8 H H3/\j<=k/\∃p kvs o5,H p=none/\H3 p=some (.dT kvs)/\QE H3 (je rs j [(ns,1)]) kvs/\σ=[some (.ref a),some v,some (.int k),some (.ref p),o5])
   ⟨fun c o e=>by rw[v9 (u9 e hHp)];exact gg _ _ e,A7 _,p,_,none,hHp,j0,⟨rfl,⟨c,rfl,tW hp4 (ndt _) Kp.at _ _ hc4⟩,trivial⟩,rfl⟩ (fun j σ H3 hj h=>?_) (fun σ H3 h=>?_)
  ·obtain⟨g3,hjk,p,kvs,o5,hpn,hp3,hq3,rfl⟩:=h
   obtain⟨w1,w2,w3,w4⟩:=wo j (by lia)
   have hl:(je rs j [(ns,1)]).length<=1024:=j9 w4 (B9 (n:=4) (by decide) (show j<=5 by lia))
   have hj5:j<=5:=by lia
   have e1:LL ^ j<=2 ^ 1600:=j9 (uw j) (B9 (by decide) (by lia))
   have e2:4 ^ (j*j)<=2 ^ 60:=by
    have:j*j<=5*5:=F5 hj5 hj5
    exact j9 (B9 (by decide) this) (by decide)
   refine⟨_,rfl,_,rfl,p,st,v,n,20+5*j,LL ^ j,4 ^ (j*j),_,kvs,rs,rfl,hp3,hq3,w1,by lia,hl,w3,og j,e1,e2,hA.r.kp (g3.kp st),hR,n4,fun p' kvs' H4 k4 hp' h4 hq4=>?_⟩
   have g4:n8 H H4:=fun c o e=>k4 _ _ (u9 e hpn) (g3 _ _ e)
   exact⟨g4,by lia,p',kvs',_,g3.free hp',h4,hq4,rfl⟩
  ·obtain⟨g3,_,p,kvs,o5,hpn,hp3,hq3,rfl⟩:=h
   refine⟨_,rfl,p,kvs,rfl,hp3,fun z hz=>?_⟩
   have g4:n8 H3 (A6 H3 z (mZ z p)):=n8.new hz
   have hz4:A6 H3 z (mZ z p) z=some (mZ z p):=j0
   generalize A6 H3 z (mZ z p)=H4 at g4 hz4
   have hq4:QE H4 (je rs k [(ns,1)]) kvs:=hq3.mono fun a xs e=>g4 _ _ e
   refine⟨z,p,kvs,rfl,hz4,g4 _ _ hp3,by rw[hq4.len];exact hA.l64,hq4.keys,fun D ys kvs' H5 hperm g5 hD hPr=>?_⟩
   obtain⟨T',hT',hq5⟩:=hq4.perm hperm
   have hq6:QE H5 T' kvs':=hq5.mono fun a xs e=>g5 _ _ e
   exact q D ys T' H5 (g3.trans (g4.trans g5)) hT' hD (BQ.of hq6 hPr)
end
theorem yA {H:Hp}:∀{xs:List Rat}{vs:List V},mB H xs vs->TL H (xs.map fr) vs
 | [],[],_=>trivial
 | _::_,_::_,⟨⟨q,e,h⟩,b⟩=>by subst e;exact⟨⟨q,rfl,h⟩,yA b⟩
 | [],_::_,h=>h.elim
 | _::_,[],h=>h.elim
theorem yh {a b:List Rat}:a.map fr=b.map fr ↔ a=b:=⟨fun h=>iZ (fun _ _ e=>LY e) _ _ h,fun h=>by rw[h]⟩
noncomputable def gY (rs:List (List Int)) (ns:List Int) (k n:Nat):List Rat:=(O5 n).map fun i=>mj (je rs k [(ns,1)]) (fun u=>Mt.fZ u i)
theorem EM (rs:List (List Int)) (ns:List Int) (k n:Nat):(gY rs ns k n).length=n:=by unfold gY;rw[d8,aF]
section
variable {P:i8}{w:t9}{K:j7}{mg:Str->Option b9}{base:Heap}{f:Addr}{fd:A9}{ec:Nat->Addr}{Bs:Addr}
def CT:Sp:=fun vs H Q _=>∃(D:Addr) (k n m N E:Nat) (T:Q2) (ys:List V),vs=[.ref D,.int k]/\H D=some (.lst ys)/\BQ H T ys/\fE n m T/\m<=50/\n<=4/\k<n/\fe N E T/\T.length<64/\0<N/\N<=2 ^ 1800/\E<=2 ^ 80 /\
 ∀r H',n8 H H'->H' r=some (.tup ((fr (mj T fun u=>Mt.fZ u k)).map V.int))->Q (.ref r) H'
abbrev KH:Stmt:=top 45
theorem NW:B1 ["behind","kind"] ["behind","kind"] (r6 KH):=⟨rfl,rfl,rfl,by decide+kernel,rfl,by decide+kernel,by decide+kernel⟩
theorem Ow (F:Y3 K "mean_share" "mean_share" KH f fd) (c1:S6 P w K mg base 4 "total" ["fractions"] kM) (c2:S6 P w K mg base 3 "times" ["one","other"] iJ) (c3:S6 P w K mg base 3 "share" ["urn","kind"] kN):G7 P w K mg base cQ 5 f fd ["behind","kind"] CT:=by
 refine F.ok NW (fun vs H Q E h=>?_) (fun cdv A outer s H vs Q E hr h=>?_)
 ·obtain⟨D,k,n,m,N,E,T,ys,rfl,_⟩:=h
  rfl
 obtain⟨D,k,n,m,N,En,T,ys,rfl,hD,hB,hK,hm,n4,hk,hE,hl,hN0,hN,hEn,q⟩:=h
 refine⟨_,n6 (A5 (B0 c1 hr rfl (b8 (O1 (N:=["urn","so_likely","kind"]) (ix:=[none,none,some 1]) (ifs:=[]) (tc:=T5) rfl (gR (pv 0))
   (fun s H ex=>Ec (K:=K) (n:=2) rfl rfl (L9 (bz (i:=0) (by decide+kernel) rfl (A4 rfl) (.inr rfl)) (L9 (bz (i:=1) (by decide+kernel) rfl (A4 rfl) (.inr rfl)) bQ))) (fun s H ex=>L8)
   (fun s H ex=>B0 (c2.up (by decide)) hr rfl (b8 (B0 (c3.up (by decide)) hr rfl (b8 (pv 0) (b8 (pv 2) f7))) (b8 (pv 1) f7))) rfl (by decide+kernel) (by rfl) (by rfl) (fun _=>rfl)) f7))),?_⟩
 have hNL:LL*N<=2 ^ 2100:=by
  have:(2:Nat) ^ 2100=2 ^ 300*2 ^ 1800:=by rw[<- N8]
  rw[this];exact F5 FX hN
 refine⟨_,rfl,D,rfl,⟨_,.of hD⟩,?_⟩
 refine rO (K:=K) (a:=D) (xs:=ys) (sz (by rw[hB.len];lia)) (fun i zs H2=>n8 H H2/\i<=T.length/\mB H2 ((T.take i).map fun p=>Mt.fZ p.1 k*p.2) zs) ⟨n8.refl H,A7 _,trivial⟩ (fun i zs H2 h=>?_) (fun i zs H2 _ h=>.of (h.1 _ _ hD)) ⟨rfl,rfl⟩ (fun i zs H2 x hx h=>?_) (fun zs H2 h=>?_)
 ·rw[h.2.2.len,d8,F9]
  have:=h.2.1
  lia
 ·obtain⟨g2,hi,hF⟩:=h
  obtain⟨p,r,ka,qa,hp,rfl,h1,h2,h3⟩:=hB.get hx
  have hil:=(List.getElem?_eq_some_iff.mp hp).1
  have hku:=hK p (y8 hp)
  have hv:=hE p (y8 hp)
  refine⟨r,.ref ka,.ref qa,rfl,.of (g2 _ _ h1),_,rfl,_,rfl,ka,n,m,p.1,k,rfl,g2 _ _ h2,hku,n4,by lia,hk,fun p5 H5 g5 hp5=>?_⟩
  have d1:Bd 1880 p.2:=hv.bd hN0 (by
   have:(2:Nat) ^ 1880=2 ^ 1800*2 ^ 80:=by rw[<- N8]
   rw[this];exact F5 hN hEn) (j9 hN (B9 (by decide) (by decide)))
  refine⟨_,rfl,p5,qa,Mt.fZ p.1 k,p.2,12,1880,rfl,hp5,g5 _ _ (g2 _ _ h3),Rat.num_nonneg.mpr (Dc hku k),Rat.num_nonneg.mpr hv.nn,De hku n4 (by lia) k,d1,by decide,fun p6 H6 g6 hp6=>⟨g2.trans (g5.trans g6),hil,?_⟩⟩
  rw[D1,hp,w5]
  exact mB.snoc ⟨p6,rfl,hp6⟩ (hF.mono fun a xs e=>g6 _ _ (g5 _ _ e))
 ·obtain⟨g2,_,hF⟩:=h
  intro p hp
  rw[hB.len,N9] at hF
  have g3:n8 H2 (A6 H2 p (.lst zs)):=n8.new hp
  have hp3:A6 H2 p (.lst zs) p=some (.lst zs):=j0
  generalize A6 H2 p (.lst zs)=H3 at g3 hp3
  refine⟨p,zs,T.map (fun p=>Mt.fZ p.1 k*p.2),LL*N,En,2190,rfl,hp3,hF.mono fun a xs e=>g3 _ _ e,fun x hx=>?_,ij yP hN0,?_,j9 hNL (B9 (by decide) (by decide)),by decide,fun r H4 g4 hr4=>?_⟩
  ·obtain⟨p,hp,e⟩:=List.mem_map.mp hx
   subst e
   exact((Da (hK p hp) n4 hm k).mul (hE p hp)).mono (by lia)
  ·have:(2:Nat) ^ 2190=2 ^ 2100*(2 ^ 80*2 ^ 10):=by rw[<- N8,<- N8]
   rw[this]
   refine F5 hNL ?_
   rw[d8]
   have:En*T.length+En=En*(T.length+1):=by rw[Y0,Nat.mul_one]
   rw[this]
   exact F5 hEn (by show _<=1024;lia)
  ·refine q r H4 ((g2.trans g3).trans g4) ?_
   rw[lg];exact hr4
def GQ:Sp:=fun vs H Q _=>∃(st a:Addr) (v:V) (n k:Nat) (ns:List Int) (rs:List (List Int)),vs=[.ref a,v,.int k]/\BO st H n ns rs k a v /\
 ∀p xs H',n8 H H'->H' p=some (.tup xs)->mB H' (gY rs ns k n) xs->Q (.ref p) H'
def xt (ec:Nat->Addr):Sp:=fun vs H Q E=>Mv ec vs H E ∨ GQ vs H Q E
abbrev Dy:Stmt:=top 47
theorem Di:B1 ["urn","rule","draws","behind"] ["urn","rule","draws"] (r6 Dy):=⟨rfl,rfl,rfl,by decide+kernel,rfl,by decide+kernel,by decide+kernel⟩
theorem Lq (F:Y3 K "mean_shares" "mean_shares" Dy f fd) (B:Bt mg) (c1:O9 P w K mg base 7 "stands" ["urn","rule","draws"] (rh ec)) (c2:S6 P w K mg base 5 "mean_share" ["behind","kind"] CT):G7 P w K mg base (cj P w) 8 f fd ["urn","rule","draws"] (xt ec):=by
 refine F.okX Di (fun vs H Q E h=>?_) (fun cdv A outer s H vs Q E hr h=>?_)
 ·rcases h with ⟨st,u,v,x,d,e,g,i,rfl,_⟩|⟨st,a,v,n,k,ns,rs,rfl,_⟩
  ·rfl
  ·rfl
 refine⟨_,j5 (F7 (i:=3) Di.nd rfl (bf rfl) (G1 c1 hr rfl K0 (b8 (pv 0) (b8 (pv 1) (b8 (pv 2) f7)))))
  (qu.nox (n6 (A5 (D9 M9 rfl B.tuple R3 (b8 (O1 (N:=["kind","behind"]) (ix:=[none,some 3]) (ifs:=[]) (tc:=T5) rfl
   (U3 rfl B.range (b8 (A1 E2 rfl B.len C9 (b8 (pv 0) f7)) f7))
   (fun s H ex=>bz (i:=0) (by decide+kernel) rfl (A4 rfl) (.inr rfl)) (fun s H ex=>L8)
   (fun s H ex=>B0 (c2.up (by decide)) hr rfl (b8 (pv 1) (b8 (pv 0) f7))) rfl (by decide+kernel) (by rfl) (by rfl) (fun _=>rfl)) f7))))),?_⟩
 rcases h with hrf|⟨st,a,v,n,k,ns,rs,rfl,hA,q⟩
 ·obtain⟨st,u,v,x,d,e,g,i,rfl,V3⟩:=hrf
  exact⟨_,rfl,_,rfl,_,rfl,.inl ⟨st,u,v,x,d,e,g,i,rfl,V3⟩⟩
 refine⟨_,rfl,_,rfl,_,rfl,.inr ⟨st,a,v,n,k,ns,rs,rfl,hA,fun D ys T' H1 g1 hT hD hB=>?_⟩⟩
 obtain⟨a',e,_,ha⟩:=hA.u.di
 cases e
 have hul:=hA.uu.len
 have n4:=hA.n4
 have k6:=hA.k6
 obtain⟨w1,w2,w3,w4⟩:=mY hA.ru n4 hA.uu k k6
 have e1:LL ^ k<=2 ^ 1800:=j9 (uw k) (B9 (by decide) (by lia))
 have e2:4 ^ (k*k)<=2 ^ 80:=by
  have:k*k<=6*6:=F5 k6 k6
  exact j9 (B9 (by decide) this) (by decide)
 refine⟨_,rfl,a,_,rfl,.inr (.of (g1 _ _ ha)),(n:Int),by rw[d8,hul],by lia,by lia,?_⟩
 refine aI (lo:=0) (n:=n) (sz (by lia)) (fun i zs H2=>n8 H1 H2/\i<=n/\mB H2 (gY rs ns k i) zs) ⟨n8.refl _,A7 _,trivial⟩ (fun i zs H2 h=>?_) rfl (fun i zs H2 hi h=>?_) (fun zs H2 h=>?_)
 ·rw[h.2.2.len,EM]
 ·obtain⟨g2,hil,hF⟩:=h
  have e0:(0:Int)+(i:Int)=(i:Int):=by lia
  rw[e0]
  refine⟨_,rfl,_,rfl,D,i,n,20+5*k,LL ^ k,4 ^ (k*k),T',ys,rfl,g2 _ _ hD,hB.same g2,fun p hp=>w1 p (hT.mem_iff.mp hp),by lia,n4,hi,fun p hp=>w3 p (hT.mem_iff.mp hp),by rw[hT.length_eq];exact hA.l64,og k,e1,e2,fun r H3 g3 hr3=>⟨g2.trans g3,by lia,?_⟩⟩
  rw[rE hT] at hr3
  have e3:gY rs ns k (i+1)=gY rs ns k i++[mj (je rs k [(ns,1)]) (fun u=>Mt.fZ u i)]:=by unfold gY;rw[qR,w5];rfl
  rw[e3]
  exact mB.snoc ⟨r,rfl,hr3⟩ (hF.mono fun a xs e=>g3 _ _ e)
 ·obtain⟨g2,_,hF⟩:=h
  intro p hp
  refine⟨p,_,rfl,.inl ⟨.of j0,fun l hl=>?_⟩⟩
  have g3:n8 H2 (A6 (A6 H2 p (.lst zs)) l (.tup zs)):=(n8.new hp).trans (n8.new hl)
  exact q l zs _ ((g1.trans g2).trans g3) j0 (hF.mono fun a xs e=>g3 _ _ e)
structure BP (st:Addr) (H:Hp) (n:Nat) (ns:List Int) (rs:List (List Int)) (a:Addr) (v:V):Prop where
 u:Dt st H (DI ns) (.ref a)
 uu:Mt.gx n 20 ns
 r:Dt st H (DR rs) v
 ru:Mt.kB n 5 rs
 n1:1<=n
 n4:n<=4
theorem BP.kp {st:Addr}{H H':Hp}{n:Nat}{ns:List Int}{rs:List (List Int)}{a:Addr}{v:V} (h:BP st H n ns rs a v) (g:Kp st H H'):BP st H' n ns rs a v :=
 ⟨h.u.kp g,h.uu,h.r.kp g,h.ru,h.n1,h.n4⟩
theorem BP.st {st:Addr}{H:Hp}{n:Nat}{ns:List Int}{rs:List (List Int)}{a:Addr}{v:V} (h:BP st H n ns rs a v) {k:Nat} (hk:k<=2):BO st H n ns rs k a v :=
 ⟨h.u,h.uu,h.r,h.ru,h.n1,h.n4,by lia,K6 (mY h.ru h.n4 h.uu k (by lia)).2.2.2 (K6 (B9 (n:=4) (by decide) hk) (by decide))⟩
def DueF (d e:C1) (i:Nat):Prop:=(i=0/\Q5 20 d=false) ∨ (i=1/\Q5 20 d=true/\K8 (bI d) e=false)
def RefF (ec:Nat->Addr) (vs:List V) (H:Hp) (E:XK):Prop:=∃(st:Addr) (u v:V) (d e:C1) (i:Nat),vs=[u,v]/\Dt st H d u/\cq d/\Dt st H e v/\tU e/\DueF d e i/\∀H',n8 H H'->E (.ref (ec i)) none H'
def CY:Sp:=fun vs H Q _=>∃(st a:Addr) (v:V) (n:Nat) (ns:List Int) (rs:List (List Int)),vs=[.ref a,v]/\BP st H n ns rs a v/\∀H',n8 H H'->Q (.bl (decide (gY rs ns 1 n=gY rs ns 0 n))) H'
def nQ (ec:Nat->Addr):Sp:=fun vs H Q E=>RefF ec vs H E ∨ CY vs H Q E
abbrev xP:Stmt:=top 48
theorem GW:B1 ["urn","rule"] ["urn","rule"] (r6 xP):=⟨rfl,rfl,rfl,by decide+kernel,rfl,by decide+kernel,by decide+kernel⟩
theorem HP (F:Y3 K "is_fair" "is_fair" xP f fd) (c1:O9 P w K mg base 8 "mean_shares" ["urn","rule","draws"] (xt ec)):G7 P w K mg base (cj P w) 9 f fd ["urn","rule"] (nQ ec):=by
 refine F.okX GW (fun vs H Q E h=>?_) (fun cdv A outer s H vs Q E hr h=>?_)
 ·rcases h with ⟨st,u,v,d,e,i,rfl,_⟩|⟨st,a,v,n,ns,rs,rfl,_⟩
  ·rfl
  ·rfl
 refine⟨_,n6 (A5 (fj (Ew hr.units) (G1 c1 hr rfl K0 (b8 (pv 0) (b8 (pv 1) (b8 t8 f7)))) (G1 c1 hr rfl K0 (b8 (pv 0) (b8 (pv 1) (b8 t8 f7)))) (G0 _))),?_⟩
 rcases h with ⟨st,u,v,d,e,i,rfl,hu,hus,hv,hvo,due,q⟩|⟨st,a,v,n,ns,rs,rfl,hA,q⟩
 ·refine⟨_,rfl,_,rfl,.inl ⟨st,u,v,.int 1,d,e,.int 1,i,rfl,hu,hus,hv,hvo,Dt.int _ _ _,?_,q⟩⟩
  unfold FY
  rcases due with z|z
  ·exact .inl z
  ·exact .inr (.inl z)
 refine⟨_,rfl,_,rfl,.inr ⟨st,a,v,n,1,ns,rs,rfl,hA.st (by decide),fun p xs H1 g1 hp hF=>?_⟩⟩
 refine⟨_,rfl,_,rfl,.inr ⟨st,a,v,n,0,ns,rs,rfl,(hA.kp (g1.kp st)).st (by decide),fun r ys H2 g2 hr2 hG=>?_⟩⟩
 obtain⟨z,hz⟩:∃z,z=p+r+(xs.map adr).sum+(ys.map adr).sum+1:=⟨_,rfl⟩
 have np:p≠z:=by rw[hz];exact m9 (S7 (j9 (j9 (M3 p r) (M3 _ _)) (M3 _ _)))
 have nr:r≠z:=by rw[hz];exact m9 (S7 (j9 (j9 (av r p) (M3 _ _)) (M3 _ _)))
 have nx:∀a,V.ref a∈xs->a≠z:=fun a ha=>by rw[hz];exact m9 (S7 (j9 (j9 (yK ha) (av _ _)) (M3 _ _)))
 have ny:∀a,V.ref a∈ys->a≠z:=fun a ha=>by rw[hz];exact m9 (S7 (j9 (yK ha) (av _ _)))
 refine Iw (l:=z) (a:=(gY rs ns 1 n).map fr) (b:=(gY rs ns 0 n).map fr) (Dt.tup np (g2 _ _ hp) ((yA (hF.mono fun a xs e=>g2 _ _ e)).dts nx)) (Dt.tup nr hr2 ((yA hG).dts ny)) ?_
 rw[decide_eq_decide.mpr yh]
 exact q H2 (g1.trans g2)
end
end G
namespace Mq
open PySem PySem.Spec L2 Mt Md
noncomputable def dd {α:Type} [DecidableEq α]:List α->List α
 | []=>[]
 | a::l=>if a∈dd l then dd l else a::dd l
theorem EN {α:Type} [DecidableEq α] {x:α}:∀{l:List α},x∈l->x∈dd l
 | a::l,h=>by
  unfold dd
  rcases List.mem_cons.mp h with e|e
  ·subst e
   split
   ·assumption
   ·exact f9
  ·have:=EN e
   split
   ·exact this
   ·exact i4 _ this
theorem yB {α:Type} [DecidableEq α] {x:α}:∀{l:List α},x∈dd l->x∈l
 | [],h=>h
 | a::l,h=>by
  unfold dd at h
  split at h
  ·exact i4 _ (yB h)
  ·rcases List.mem_cons.mp h with e|e
   ·subst e;exact f9
   ·exact i4 _ (yB e)
theorem EL {α:Type} [DecidableEq α]:∀{l m:List α},l.Nodup->(∀a∈l,a∈m)->l.length<=m.length
 | [],m,_,_=>A7 _
 | a::l,m,hn,h=>by
  rw[bN] at hn
  have ha:=h a f9
  have ih:=EL (l:=l) (m:=m.erase a) hn.2 fun b hb=>by
   have:b≠a:=fun e=>hn.1 (e ▸ hb)
   exact(List.mem_erase_of_ne this).mpr (h b (i4 _ hb))
  have:=List.length_erase_of_mem ha
  have hp:0<m.length:=ji ha
  rw[m8];lia
noncomputable def BB (n:Nat):Nat->List (List Int)
 | 0=>[aP n 0]
 | k+1=>dd ((BB n k).flatMap fun c=>(O5 n).map fun i=>MS c i)
theorem vZ {n:Nat}:∀{k:Nat}{c:List Int},c∈BB n k->c.length=n
 | 0,c,h=>by rw[List.mem_singleton.mp h];simp
 | k+1,c,h=>by
  obtain⟨c0,h0,h1⟩:=List.mem_flatMap.mp (yB (show c∈dd _ from h))
  obtain⟨i,_,e⟩:=List.mem_map.mp h1
  rw[<- e];unfold MS;rw[jx];exact vZ h0
theorem oV {x:Rat}{s:Int}:∀{bs:List (Int × List Int)}{D:Q2}{p:List Int × Rat},p∈aX x s bs D->(∃b∈bs,p.1=b.2) ∨ ∃q∈D,q.1=p.1
 | [],D,p,h=>.inr ⟨p,h,rfl⟩
 | b::bs,D,p,h=>by
  unfold aX at h
  rcases oV h with ⟨c,hc,e⟩|⟨q,hq,e⟩
  ·exact .inl ⟨c,i4 _ hc,e⟩
  ·rcases ju hq with e2|⟨r,hr,e2⟩
   ·exact .inl ⟨b,f9,by rw[<- e,e2]⟩
   ·exact .inr ⟨r,hr,by rw[e2,e]⟩
theorem mP {rs:List (List Int)}:∀{T D:Q2}{p:List Int × Rat},p∈U7 rs T D->(∃q∈T,∃b∈qY rs q.1,p.1=b.2) ∨ ∃q∈D,q.1=p.1
 | [],D,p,h=>.inr ⟨p,h,rfl⟩
 | t::T,D,p,h=>by
  unfold U7 at h
  rcases mP h with ⟨q,hq,b,hb,e⟩|⟨q,hq,e⟩
  ·exact .inl ⟨q,i4 _ hq,b,hb,e⟩
  ·rcases oV hq with ⟨b,hb,e2⟩|⟨r,hr,e2⟩
   ·exact .inl ⟨t,f9,b,hb,by rw[<- e,e2]⟩
   ·exact .inr ⟨r,hr,by rw[e2,e]⟩
theorem zZ {n:Nat}{rs:List (List Int)}{u:List Int} (hR:kB n 5 rs) (hu:u.length=n):∀{k:Nat}{p:List Int × Rat},p∈je rs k [(u,1)]->∃c∈BB n k,p.1=Gq u rs c
 | 0,p,h=>by
  rw[List.mem_singleton.mp h]
  exact⟨_,List.mem_singleton.mpr rfl,(FO u rs n).symm⟩
 | k+1,p,h=>by
  rcases mP (show p∈U7 rs (je rs k [(u,1)]) [] from h) with ⟨q,hq,b,hb,e⟩|⟨q,hq,_⟩
  ·obtain⟨c,hc,e2⟩:=zZ hR hu hq
   obtain⟨j,h1,_,h3⟩:=kZ hb
   rw[br] at h3
   have hj:j<n:=by
    rw[e2] at h1
    unfold Gq at h1
    rw[d8,aF,hu] at h1
    exact h1
   refine⟨MS c j,EN (List.mem_flatMap.mpr ⟨c,hc,List.mem_map.mpr ⟨j,List.mem_range.mpr hj,rfl⟩⟩),?_⟩
   rw[IL hu (vZ hc) hR hj,e,h3,e2]
  ·simp at hq
theorem Mn {n k:Nat}{rs:List (List Int)}{u:List Int} (hR:kB n 5 rs) (n4:n<=4) (hu:gx n 20 u) (hk:k<=6) (hl:(BB n k).length<64):(je rs k [(u,1)]).length<64:=by
 have h2:=(mY hR n4 hu k hk).2.1
 unfold uN at h2
 have:=EL (m:=(BB n k).map (Gq u rs)) h2 fun a ha=>by
  obtain⟨p,hp,e⟩:=List.mem_map.mp ha
  obtain⟨c,hc,e2⟩:=zZ hR hu.len hp
  exact List.mem_map.mpr ⟨c,hc,by rw[<- e,e2]⟩
 rw[d8,d8] at this
 lia
theorem Mm {n k:Nat} (h1:1<=n) (h4:n<=4) (h:k<=if n<=2 then 6 else 4):(BB n k).length<64/\n ^ k<=256/\k<=6:=by
 have e:n=1 ∨ n=2 ∨ n=3 ∨ n=4:=by lia
 rcases e with rfl|rfl|rfl|rfl
 ·have z:k=0 ∨ k=1 ∨ k=2 ∨ k=3 ∨ k=4 ∨ k=5 ∨ k=6:=by simp at h;lia
  rcases z with rfl|rfl|rfl|rfl|rfl|rfl|rfl <;> decide+kernel
 ·have z:k=0 ∨ k=1 ∨ k=2 ∨ k=3 ∨ k=4 ∨ k=5 ∨ k=6:=by simp at h;lia
  rcases z with rfl|rfl|rfl|rfl|rfl|rfl|rfl <;> decide+kernel
 ·have z:k=0 ∨ k=1 ∨ k=2 ∨ k=3 ∨ k=4:=by simp at h;lia
  rcases z with rfl|rfl|rfl|rfl|rfl <;> decide+kernel
 ·have z:k=0 ∨ k=1 ∨ k=2 ∨ k=3 ∨ k=4:=by simp at h;lia
  rcases z with rfl|rfl|rfl|rfl|rfl <;> decide+kernel
end Mq
namespace G
open PySem PySem.Spec PyProof.Rows L2 Mt Md Mq
def we (u:List Int) (k:Nat):Rat:=((u.getD k 0:Int):Rat)
noncomputable def uL (rs:List (List Int)) (ns:List Int) (k n:Nat):List Rat:=(O5 n).map fun i=>mj (je rs k [(ns,1)]) (fun u=>we u i)
theorem HS (rs:List (List Int)) (ns:List Int) (k n:Nat):(uL rs ns k n).length=n:=by unfold uL;rw[d8,aF]
theorem Fm {t:Int}{B:Nat} (h0:0<=t) (h1:t<=(B:Int)):Vq 1 B ((t:Int):Rat):=by
 refine⟨by exact_mod_cast h0,?_,t,?_⟩
 ·have:((t:Int):Rat)<=(((B:Nat):Int):Rat):=by exact_mod_cast h1
  have e:(((B:Nat):Int):Rat)=((B:Nat):Rat):=by norm_cast
  rw[<- e];exact this
 ·have e:((1:Nat):Rat)=1:=rfl
  rw[e];grind
theorem LS {t:Int} (h0:0<=t) (h1:t<=4096):Bd 12 ((t:Int):Rat):=by
 refine⟨?_,?_⟩
 ·show t.natAbs<=4096;lia
 ·show 1<=4096;decide
section
variable {P:i8}{w:t9}{K:j7}{mg:Str->Option b9}{base:Heap}{f:Addr}{fd:A9}{ec:Nat->Addr}{Bs:Addr}
def CU:Sp:=fun vs H Q _=>∃(D:Addr) (k n m N E:Nat) (T:Q2) (ys:List V),vs=[.ref D,.int k]/\H D=some (.lst ys)/\BQ H T ys/\fE n m T/\m<=50/\n<=4/\k<n/\fe N E T/\T.length<64/\0<N/\N<=2 ^ 1800/\E<=2 ^ 80 /\
 ∀r H',n8 H H'->H' r=some (.tup ((fr (mj T fun u=>we u k)).map V.int))->Q (.ref r) H'
abbrev KJ:Stmt:=top 44
theorem NX:B1 ["behind","kind"] ["behind","kind"] (r6 KJ):=⟨rfl,rfl,rfl,by decide+kernel,rfl,by decide+kernel,by decide+kernel⟩
theorem Oy (F:Y3 K "mean_balls" "mean_balls" KJ f fd) (c1:S6 P w K mg base 4 "total" ["fractions"] kM) (c2:S6 P w K mg base 3 "times" ["one","other"] iJ):G7 P w K mg base cQ 5 f fd ["behind","kind"] CU:=by
 refine F.ok NX (fun vs H Q E h=>?_) (fun cdv A outer s H vs Q E hr h=>?_)
 ·obtain⟨D,k,n,m,N,E,T,ys,rfl,_⟩:=h
  rfl
 obtain⟨D,k,n,m,N,En,T,ys,rfl,hD,hB,hK,hm,n4,hk,hE,hl,hN0,hN,hEn,q⟩:=h
 refine⟨_,n6 (A5 (B0 c1 hr rfl (b8 (O1 (N:=["urn","so_likely","kind"]) (ix:=[none,none,some 1]) (ifs:=[]) (tc:=T5) rfl (gR (pv 0))
   (fun s H ex=>Ec (K:=K) (n:=2) rfl rfl (L9 (bz (i:=0) (by decide+kernel) rfl (A4 rfl) (.inr rfl)) (L9 (bz (i:=1) (by decide+kernel) rfl (A4 rfl) (.inr rfl)) bQ))) (fun s H ex=>L8)
   (fun s H ex=>B0 (c2.up (by decide)) hr rfl (b8 (cC (b8 (K5 (ixK (K:=K) rfl) (pv 0) (pv 2) (fun _ _=>rfl)) (b8 t8 f7))) (b8 (pv 1) f7))) rfl (by decide+kernel) (by rfl) (by rfl) (fun _=>rfl)) f7))),?_⟩
 refine⟨_,rfl,D,rfl,⟨_,.of hD⟩,?_⟩
 refine rO (K:=K) (a:=D) (xs:=ys) (sz (by rw[hB.len];lia)) (fun i zs H2=>n8 H H2/\i<=T.length/\mB H2 ((T.take i).map fun p=>we p.1 k*p.2) zs) ⟨n8.refl H,A7 _,trivial⟩ (fun i zs H2 h=>?_) (fun i zs H2 _ h=>.of (h.1 _ _ hD)) ⟨rfl,rfl⟩ (fun i zs H2 x hx h=>?_) (fun zs H2 h=>?_)
 ·rw[h.2.2.len,d8,F9]
  have:=h.2.1
  lia
 ·obtain⟨g2,hi,hF⟩:=h
  obtain⟨p,r,ka,qa,hp,rfl,h1,h2,h3⟩:=hB.get hx
  have hil:=(List.getElem?_eq_some_iff.mp hp).1
  have hku:=hK p (y8 hp)
  have hv:=hE p (y8 hp)
  have hg:=hku.getD k
  refine⟨r,.ref ka,.ref qa,rfl,.of (g2 _ _ h1),_,rfl,_,rfl,ka,_,_,_,rfl,rfl,.of (g2 _ _ h2),nZ (by rw[hku.len];exact hk),(by show 2<=i7;decide),fun p5 hp5=>?_⟩
  have g5:n8 H2 (A6 H2 p5 (.tup [.int (p.1.getD k 0),.int 1])):=n8.new hp5
  have h5:A6 H2 p5 (.tup [.int (p.1.getD k 0),.int 1]) p5=some (.tup ((fr (we p.1 k)).map V.int)):=j0
  try dsimp -proj only
  generalize A6 H2 p5 (.tup [.int (p.1.getD k 0),.int 1])=H5 at g5 h5
  have d1:Bd 1880 p.2:=hv.bd hN0 (by
   have:(2:Nat) ^ 1880=2 ^ 1800*2 ^ 80:=by rw[<- N8]
   rw[this];exact F5 hN hEn) (j9 hN (B9 (by decide) (by decide)))
  refine⟨_,rfl,p5,qa,we p.1 k,p.2,12,1880,rfl,h5,g5 _ _ (g2 _ _ h3),hg.1,Rat.num_nonneg.mpr hv.nn,LS hg.1 (by lia),d1,by decide,fun p6 H6 g6 hp6=>⟨g2.trans (g5.trans g6),hil,?_⟩⟩
  rw[D1,hp,w5]
  exact mB.snoc ⟨p6,rfl,hp6⟩ (hF.mono fun a xs e=>g6 _ _ (g5 _ _ e))
 ·obtain⟨g2,_,hF⟩:=h
  intro p hp
  rw[hB.len,N9] at hF
  have g3:n8 H2 (A6 H2 p (.lst zs)):=n8.new hp
  have hp3:A6 H2 p (.lst zs) p=some (.lst zs):=j0
  generalize A6 H2 p (.lst zs)=H3 at g3 hp3
  refine⟨p,zs,T.map (fun p=>we p.1 k*p.2),1*N,64*En,1900,rfl,hp3,hF.mono fun a xs e=>g3 _ _ e,fun x hx=>?_,ij (by decide) hN0,?_,by rw[Cn];exact j9 hN (B9 (by decide) (by decide)),by decide,fun r H4 g4 hr4=>?_⟩
  ·obtain⟨p,hp,e⟩:=List.mem_map.mp hx
   subst e
   have hg:=(hK p hp).getD k
   exact((Fm (B:=64) hg.1 (by lia)).mul (hE p hp))
  ·have:(2:Nat) ^ 1900=2 ^ 1800*(2 ^ 80*2 ^ 20):=by rw[<- N8,<- N8]
   rw[this,Cn]
   refine F5 hN ?_
   rw[d8]
   have:64*En*T.length+64*En=En*(64*T.length+64):=by rw[Y0,<- Pl,PN En 64]
   rw[this]
   exact F5 hEn (by show _<=1048576;lia)
  ·refine q r H4 ((g2.trans g3).trans g4) ?_
   rw[lg];exact hr4
def Kn:Sp:=fun vs H Q _=>∃(st a:Addr) (v:V) (n k:Nat) (ns:List Int) (rs:List (List Int)),vs=[.ref a,v,.int k]/\BO st H n ns rs k a v /\
 ∀p xs H',n8 H H'->H' p=some (.tup xs)->mB H' (uL rs ns k n) xs->Q (.ref p) H'
def zh (ec:Nat->Addr):Sp:=fun vs H Q E=>Mv ec vs H E ∨ Kn vs H Q E
abbrev KI:Stmt:=top 46
theorem Jm:B1 ["urn","rule","draws","behind"] ["urn","rule","draws"] (r6 KI):=⟨rfl,rfl,rfl,by decide+kernel,rfl,by decide+kernel,by decide+kernel⟩
theorem Ox (F:Y3 K "mean" "mean" KI f fd) (B:Bt mg) (c1:O9 P w K mg base 7 "stands" ["urn","rule","draws"] (rh ec)) (c2:S6 P w K mg base 5 "mean_balls" ["behind","kind"] CU):G7 P w K mg base (cj P w) 8 f fd ["urn","rule","draws"] (zh ec):=by
 refine F.okX Jm (fun vs H Q E h=>?_) (fun cdv A outer s H vs Q E hr h=>?_)
 ·rcases h with ⟨st,u,v,x,d,e,g,i,rfl,_⟩|⟨st,a,v,n,k,ns,rs,rfl,_⟩
  ·rfl
  ·rfl
 refine⟨_,j5 (F7 (i:=3) Jm.nd rfl (bf rfl) (G1 c1 hr rfl K0 (b8 (pv 0) (b8 (pv 1) (b8 (pv 2) f7)))))
  (qu.nox (n6 (A5 (D9 M9 rfl B.tuple R3 (b8 (O1 (N:=["kind","behind"]) (ix:=[none,some 3]) (ifs:=[]) (tc:=T5) rfl
   (U3 rfl B.range (b8 (A1 E2 rfl B.len C9 (b8 (pv 0) f7)) f7))
   (fun s H ex=>bz (i:=0) (by decide+kernel) rfl (A4 rfl) (.inr rfl)) (fun s H ex=>L8)
   (fun s H ex=>B0 (c2.up (by decide)) hr rfl (b8 (pv 1) (b8 (pv 0) f7))) rfl (by decide+kernel) (by rfl) (by rfl) (fun _=>rfl)) f7))))),?_⟩
 rcases h with hrf|⟨st,a,v,n,k,ns,rs,rfl,hA,q⟩
 ·obtain⟨st,u,v,x,d,e,g,i,rfl,V3⟩:=hrf
  exact⟨_,rfl,_,rfl,_,rfl,.inl ⟨st,u,v,x,d,e,g,i,rfl,V3⟩⟩
 refine⟨_,rfl,_,rfl,_,rfl,.inr ⟨st,a,v,n,k,ns,rs,rfl,hA,fun D ys T' H1 g1 hT hD hB=>?_⟩⟩
 obtain⟨a',e,_,ha⟩:=hA.u.di
 cases e
 have hul:=hA.uu.len
 have n4:=hA.n4
 have k6:=hA.k6
 obtain⟨w1,w2,w3,w4⟩:=mY hA.ru n4 hA.uu k k6
 have e1:LL ^ k<=2 ^ 1800:=j9 (uw k) (B9 (by decide) (by lia))
 have e2:4 ^ (k*k)<=2 ^ 80:=by
  have:k*k<=6*6:=F5 k6 k6
  exact j9 (B9 (by decide) this) (by decide)
 refine⟨_,rfl,a,_,rfl,.inr (.of (g1 _ _ ha)),(n:Int),by rw[d8,hul],by lia,by lia,?_⟩
 refine aI (lo:=0) (n:=n) (sz (by lia)) (fun i zs H2=>n8 H1 H2/\i<=n/\mB H2 (uL rs ns k i) zs) ⟨n8.refl _,A7 _,trivial⟩ (fun i zs H2 h=>?_) rfl (fun i zs H2 hi h=>?_) (fun zs H2 h=>?_)
 ·rw[h.2.2.len,HS]
 ·obtain⟨g2,hil,hF⟩:=h
  have e0:(0:Int)+(i:Int)=(i:Int):=by lia
  rw[e0]
  refine⟨_,rfl,_,rfl,D,i,n,20+5*k,LL ^ k,4 ^ (k*k),T',ys,rfl,g2 _ _ hD,hB.same g2,fun p hp=>w1 p (hT.mem_iff.mp hp),by lia,n4,hi,fun p hp=>w3 p (hT.mem_iff.mp hp),by rw[hT.length_eq];exact hA.l64,og k,e1,e2,fun r H3 g3 hr3=>⟨g2.trans g3,by lia,?_⟩⟩
  rw[rE hT] at hr3
  have e3:uL rs ns k (i+1)=uL rs ns k i++[mj (je rs k [(ns,1)]) (fun u=>we u i)]:=by unfold uL;rw[qR,w5];rfl
  rw[e3]
  exact mB.snoc ⟨r,rfl,hr3⟩ (hF.mono fun a xs e=>g3 _ _ e)
 ·obtain⟨g2,_,hF⟩:=h
  intro p hp
  refine⟨p,_,rfl,.inl ⟨.of j0,fun l hl=>?_⟩⟩
  have g3:n8 H2 (A6 (A6 H2 p (.lst zs)) l (.tup zs)):=(n8.new hp).trans (n8.new hl)
  exact q l zs _ ((g1.trans g2).trans g3) j0 (hF.mono fun a xs e=>g3 _ _ e)
end
end G
namespace G
open PySem PySem.Spec PyProof.Rows L2 Mt
section
variable {P:i8}{w:t9}{K:j7}{mg:Str->Option b9}{base:Heap}{f:Addr}{fd:A9}{ec:Nat->Addr}{Bs:Addr}
noncomputable def rH (n:Nat) (d:C1):Bool:=af 0 ((n:Int) - 1) d
theorem vK {n k:Nat} (h:k<n):rH n (.int (k:Int))=true:=by
 show (decide ((0:Int)<=(k:Int))&&decide ((k:Int)<=(n:Int) - 1))=true
 rw[decide_eq_true (by lia),decide_eq_true (by lia)];rfl
def dP (ec:Nat->Addr):Sp:=fun vs H Q E=>∃(a st:Addr) (xs:List V) (v:V) (d:C1),vs=[.ref a,v]/\H a=some (.tup xs)/\Dt st H d v/\(rH xs.length d=true->Q .non H)/\(rH xs.length d=false->E (.ref (ec 2)) none H)
abbrev iO:Stmt:=top 32
theorem sR:B1 ["urn","thing"] ["urn","thing"] (r6 iO):=⟨rfl,rfl,rfl,by decide+kernel,rfl,by decide+kernel,by decide+kernel⟩
theorem tS (F:Y3 K "need_kind" "need_kind" iO f fd) (B:Bt mg) (R:jA K mg ec Bs) (c1:S6 P w K mg base 1 "is_whole" ["thing","low","high"] cX):G7 P w K mg base (cj P w) 2 f fd ["urn","thing"] (dP ec):=by
 refine F.okX sR (fun vs H Q E h=>?_) (fun cdv A outer s H vs Q E hr h=>?_)
 ·obtain⟨a,st,xs,v,d,rfl,_⟩:=h
  rfl
 obtain⟨a,st,xs,v,d,rfl,ha,hd,q1,q2⟩:=h
 refine⟨_,n6 (K4 (cB (az (B0 c1 hr rfl (b8 (pv 1) (b8 t8 (b8 (J6 xX (A1 E2 rfl B.len C9 (b8 (pv 0) f7)) t8) f7)))))) (n6 (U0 R.e2 (R.xc 2 (by decide)) D0 (fun σ H Q Q' m q=>m _ _ q))) D4),?_⟩
 refine⟨_,rfl,_,rfl,a,_,rfl,.inr (.of ha),_,_,rfl,rfl,_,st,d,0,_,rfl,hd,_,rfl,?_⟩
 unfold rH at q1 q2
 cases hw:af 0 ((xs.length:Int) - 1) d with
 | true=>exact N3 (q1 hw)
 | false=>exact O2 (q2 hw)
def xA:Sp:=fun vs H Q _=>∃(st a:Addr) (n k:Nat) (ns:List Int),vs=[.ref a,.int k]/\Dt st H (DI ns) (.ref a)/\Mt.gx n 20 ns/\1<=n/\n<=4/\k<n/\∀p H',n8 H H'->H' p=some (.tup ((fr (Mt.fZ ns k)).map V.int))->Q (.ref p) H'
def RefC (ec:Nat->Addr) (vs:List V) (H:Hp) (E:XK):Prop:=∃(st:Addr) (u x:V) (d g:C1) (i:Nat),vs=[u,x]/\Dt st H d u/\cq d/\Dt st H g x/\((i=0/\Q5 20 d=false) ∨ (i=2/\Q5 20 d=true/\rH (bI d) g=false))/\∀H',n8 H H'->E (.ref (ec i)) none H'
def fY (ec:Nat->Addr):Sp:=fun vs H Q E=>RefC ec vs H E ∨ xA vs H Q E
abbrev oO:Stmt:=top 36
theorem AN:B1 ["urn","kind"] ["urn","kind"] (r6 oO):=⟨rfl,rfl,rfl,by decide+kernel,rfl,by decide+kernel,by decide+kernel⟩
theorem AZ (F:Y3 K "chance" "chance" oO f fd) (c1:O9 P w K mg base 5 "need_urn" ["thing"] (cW ec)) (c2:O9 P w K mg base 2 "need_kind" ["urn","thing"] (dP ec)) (c3:S6 P w K mg base 3 "share" ["urn","kind"] kN):G7 P w K mg base (cj P w) 6 f fd ["urn","kind"] (fY ec):=by
 refine F.okX AN (fun vs H Q E h=>?_) (fun cdv A outer s H vs Q E hr h=>?_)
 ·rcases h with ⟨st,u,x,d,g,i,rfl,_⟩|⟨st,a,n,k,ns,rfl,_⟩
  ·rfl
  ·rfl
 refine⟨_,j5 (X9 (G1 c1 hr rfl K0 (b8 (pv 0) f7))) (j5 (X9 (G1 (c2.up (by decide)) hr rfl K0 (b8 (pv 0) (b8 (pv 1) f7)))) (n6 (A5 (B0 (c3.up (by decide)) hr rfl (b8 (pv 0) (b8 (pv 1) f7)))))),?_⟩
 rcases h with ⟨st,u,x,d,g,i,rfl,hu,hus,hx,due,q⟩|⟨st,a,n,k,ns,rfl,hu,hU,n1,n4,hk,q⟩
 ·refine⟨_,rfl,u,st,d,rfl,hu,hus,fun hw H1 g1=>?_,fun hw H1 g1=>?_⟩
  ·rcases due with ⟨_,z⟩|⟨rfl,_,z⟩
   ·rw[hw] at z;cases z
   obtain⟨ns,e1,l1,l4,_⟩:=jm hw
   subst e1
   obtain⟨a,e2,_,ha⟩:=hu.di
   subst e2
   rw[V0] at z
   refine⟨_,rfl,_,rfl,a,st,_,x,g,rfl,g1 _ _ ha,hx.kp (g1.kp st),fun zt=>?_,fun _=>q H1 g1⟩
   rw[d8,z] at zt
   cases zt
  ·rcases due with ⟨rfl,_⟩|⟨_,z,_⟩
   ·exact q H1 g1
   ·rw[hw] at z;cases z
 ·obtain⟨a',e,_,ha⟩:=hu.di
  cases e
  have uok:=gG hU n1 n4
  refine⟨_,rfl,_,st,DI ns,rfl,hu,W0 (by rw[hU.len];lia),fun _ H1 g1=>?_,(fun z=>by rw[uok] at z;cases z)⟩
  refine⟨_,rfl,_,rfl,a,st,_,_,.int k,rfl,g1 _ _ ha,Dt.int _ _ _,fun _=>?_,fun z=>?_⟩
  ·exact⟨_,rfl,_,rfl,a,n,20,ns,k,rfl,g1 _ _ ha,hU,n4,(by lia),hk,fun p H2 g2 hp=>q p H2 (g1.trans g2) hp⟩
  ·rw[d8,hU.len,vK hk] at z;cases z
def AI (ec:Nat->Addr):Sp:=fun vs H Q E=>∃(st a:Addr) (v:V) (n k:Nat) (ns:List Int) (rs:List (List Int)),vs=[.ref a,v,.int k]/\Dt st H (DI ns) (.ref a)/\Mt.gx n 20 ns/\Dt st H (DR rs) v/\Mt.kB n 5 rs/\1<=n/\n<=4/\k<n /\
 (ns.getD k 0=0->∀H',n8 H H'->E (.ref (ec 3)) none H')/\(ns.getD k 0≠0->∀p H',n8 H H'->H' p=some (.tup ((Y8 ns (rs.getD k [])).map V.int))->Q (.ref p) H')
def RefA (ec:Nat->Addr) (vs:List V) (H:Hp) (E:XK):Prop:=∃(st:Addr) (u v x:V) (d e g:C1) (i:Nat),vs=[u,v,x]/\Dt st H d u/\cq d/\Dt st H e v/\tU e/\Dt st H g x /\
 ((i=0/\Q5 20 d=false) ∨ (i=1/\Q5 20 d=true/\K8 (bI d) e=false) ∨ (i=2/\Q5 20 d=true/\K8 (bI d) e=true/\rH (bI d) g=false))/\∀H',n8 H H'->E (.ref (ec i)) none H'
def iK (ec:Nat->Addr):Sp:=fun vs H Q E=>RefA ec vs H E ∨ AI ec vs H Q E
abbrev tq:Stmt:=top 37
theorem Dm:B1 ["urn","rule","kind"] ["urn","rule","kind"] (r6 tq):=⟨rfl,rfl,rfl,by decide+kernel,rfl,by decide+kernel,by decide+kernel⟩
theorem ED (F:Y3 K "after" "after" tq f fd) (R:jA K mg ec Bs) (c1:O9 P w K mg base 6 "need_urn_and_rule" ["urn","rule"] (sH ec)) (c2:O9 P w K mg base 2 "need_kind" ["urn","thing"] (dP ec)) (c3:S6 P w K mg base 1 "put_in" ["urn","rule","kind"] jn):G7 P w K mg base (cj P w) 7 f fd ["urn","rule","kind"] (iK ec):=by
 refine F.okX Dm (fun vs H Q E h=>?_) (fun cdv A outer s H vs Q E hr h=>?_)
 ·rcases h with ⟨st,u,v,x,d,e,g,i,rfl,_⟩|⟨st,a,v,n,k,ns,rs,rfl,_⟩
  ·rfl
  ·rfl
 refine⟨_,j5 (X9 (G1 c1 hr rfl K0 (b8 (pv 0) (b8 (pv 1) f7)))) (j5 (X9 (G1 (c2.up (by decide)) hr rfl K0 (b8 (pv 0) (b8 (pv 2) f7))))
  (j5 (K4 (E4 Z0 (K5 ah (pv 0) (pv 2) (fun _ _=>rfl)) t8 (G0 _)) (n6 (U0 R.e3 (R.xc 3 (by decide)) D0 (fun σ H Q Q' m q=>m _ _ q))) D4)
  (n6 (A5 (B0 (c3.up (by decide)) hr rfl (b8 (pv 0) (b8 (pv 1) (b8 (pv 2) f7)))))))),?_⟩
 rcases h with ⟨st,u,v,x,d,e,g,i,rfl,hu,hus,hv,hvo,hx,due,q⟩|⟨st,a,v,n,k,ns,rs,rfl,hu,hU,hv,hR,n1,n4,hk,q1,q2⟩
 ·refine⟨_,rfl,_,rfl,u,v,st,d,e,rfl,hu,hus,hv,hvo,fun hw H1 g1=>?_,fun hw hw2 H1 g1=>?_,fun hw hw2 H1 g1=>?_⟩
  ·rcases due with ⟨rfl,_⟩|⟨_,z,_⟩|⟨_,z,_⟩
   ·exact q H1 g1
   ·rw[hw] at z;cases z
   ·rw[hw] at z;cases z
  ·rcases due with ⟨_,z⟩|⟨rfl,_⟩|⟨_,_,z,_⟩
   ·rw[hw] at z;cases z
   ·exact q H1 g1
   ·rw[hw2] at z;cases z
  ·rcases due with ⟨_,z⟩|⟨_,_,z⟩|⟨rfl,_,_,z⟩
   ·rw[hw] at z;cases z
   ·rw[hw2] at z;cases z
   obtain⟨ns,e1,l1,l4,_⟩:=jm hw
   subst e1
   obtain⟨a,e2,_,ha⟩:=hu.di
   subst e2
   rw[V0] at z
   refine⟨_,rfl,_,rfl,a,st,_,x,g,rfl,g1 _ _ ha,hx.kp (g1.kp st),fun zt=>?_,fun _=>q H1 g1⟩
   rw[d8,z] at zt
   cases zt
 ·obtain⟨a',e,_,ha⟩:=hu.di
  cases e
  have uok:=gG hU n1 n4
  have rok:K8 (bI (DI ns):Int) (DR rs)=true:=by rw[V0,hU.len];exact oQ hR
  refine⟨_,rfl,_,rfl,_,_,st,DI ns,DR rs,rfl,hu,W0 (by rw[hU.len];lia),hv,⟨oE (by rw[hR.len];lia),lM hR (by lia)⟩,(fun z=>by rw[uok] at z;cases z),(fun _ z=>by rw[rok] at z;cases z),fun _ _ H1 g1=>?_⟩
  refine⟨_,rfl,_,rfl,a,st,_,_,.int k,rfl,g1 _ _ ha,Dt.int _ _ _,(fun _=>?_),(fun z=>by rw[d8,hU.len,vK hk] at z;cases z)⟩
  refine⟨_,rfl,_,rfl,a,_,_,_,rfl,rfl,.of (g1 _ _ ha),nZ (by rw[hU.len];exact hk),rfl,_,rfl,?_⟩
  by_cases hz:ns.getD k 0=0
  ·rw[hz,decide_eq_true rfl]
   exact O2 (q1 hz H1 g1)
  ·rw[decide_eq_false (show ¬ V.int (ns.getD k 0)=V.int 0 from fun z=>hz (by injection z))]
   exact N3 ⟨_,rfl,_,rfl,_,rfl,a,st,v,n,5,ns,rs,k,rfl,g1 _ _ ha,hU.len,hv.kp (g1.kp st),hR,n4,hk,fun p H2 g2 hp=>q2 hz p H2 (g1.trans g2) hp⟩
end
end G
set_option maxHeartbeats 1000000
namespace So
open PySem PyProof.Rows
section
variable {prog:i8}{w:t9}{A:y7}{E:b9->f6->Prop}{s:f6}{rk:X7->Int}{M:X7->Prop}{κ:dJ}
end
def Up (rk:X7->Int) (l:List X7):Prop:=l.Pairwise fun x y=>rk x<=rk y
structure Mg (rk:X7->Int) (la lb O:List X7) (ia ib:Nat):Prop where
 perm:O.Perm (la.take ia++lb.take ib)
 up:Up rk O
 low:∀x∈O,∀y∈la.drop ia++lb.drop ib,rk x<=rk y
set_option maxHeartbeats 4000000
def Gl (st st':SortSt):Prop:=kindOf st'=kindOf st/\arrOf st'=arrOf st/\pendingOf st'=pendingOf st/\Am st'=Am st
section
variable {rk:X7->Int}{a b out:Array X7}{ia ib:Nat}
end
section
variable {prog:i8}{w:t9}{A:y7}{E:b9->f6->Prop}{s:f6}{rk:X7->Int}{M:X7->Prop}{κ:dJ}
end
section
variable {prog:i8}{w:t9}{A:y7}{E:b9->f6->Prop}{s:f6}{rk:X7->Int}{M:X7->Prop}{κ:dJ}
end
structure Mh (rk:X7->Int) (la lb O:List X7) (na nb:Nat):Prop where
 perm:O.Perm (la.drop na++lb.drop nb)
 up:Up rk O
 hi:∀x∈la.take na++lb.take nb,∀y∈O,rk x<=rk y
section
variable {rk:X7->Int}{a b out:Array X7}{na nb:Nat}
end
section
variable {prog:i8}{w:t9}{A:y7}{E:b9->f6->Prop}{s:f6}{rk:X7->Int}{M:X7->Prop}{κ:dJ}
end
section
variable {prog:i8}{w:t9}{A:y7}{E:b9->f6->Prop}{s:f6}{rk:X7->Int}{M:X7->Prop}{κ:dJ}
end
section
variable {prog:i8}{w:t9}{A:y7}{E:b9->f6->Prop}{s:f6}{rk:X7->Int}{M:X7->Prop}{κ:dJ}
end
structure Kpt (lo:Nat) (a b:Array X7):Prop where
 perm:b.toList.Perm a.toList
 low:∀i,i<lo->b[i]?=a[i]?
section
variable {prog:i8}{w:t9}{A:y7}{E:b9->f6->Prop}{s:f6}{rk:X7->Int}{M:X7->Prop}{κ:dJ}{pd:Array (Nat × Nat × Nat)}{mg:Nat}
end
section
variable {prog:i8}{w:t9}{A:y7}{E:b9->f6->Prop}{s:f6}{rk:X7->Int}{M:X7->Prop}{κ:dJ}{pd:Array (Nat × Nat × Nat)}{mg:Nat}
end
section
variable {prog:i8}{w:t9}{A:y7}{E:b9->f6->Prop}{s:f6}{rk:X7->Int}{M:X7->Prop}{κ:dJ}
end
end So
namespace So
open PySem PyProof.Rows PySem.Spec L2
section
variable {prog:i8}{w:t9}{A:y7}{E:b9->f6->Prop}{s:f6}{rk:X7->Int}{M:X7->Prop}{κ:dJ}
end
end So
namespace L2
open PySem PySem.Spec PyProof.Rows HT
section
variable {prog:i8}{w:t9}{A:y7}{E:b9->f6->Prop}{s:f6}
end
section
variable {X:Cx}{H:Hp}
end
section
variable {X:Cx}{H:Hp}
end
end L2
namespace L2
open PySem PySem.Spec PyProof.Rows
section
variable {K:j7}{σ0:St}{te:TE}{H:Hp}{F:List V->Hp->Prop}
end
section
variable {X:Cx}
noncomputable def JF (K:j7) (a b:Addr):It :=
 ⟨fun i H=>∃xs ys x y,fC K H a xs/\fM K H b ys/\xs[i]?=some x/\ys[i]?=some y,fun i H v H'=>∃p x y,H p=none/\v=.ref p/\H'=A6 H p (.tup [x,y])/\(∀xs,fC K H a xs->xs[i]?=some x)/\∀ys,fM K H b ys->ys[i]?=some y,
  fun i H=>∃xs,fC K H a xs/\xs.length<=i⟩
def LV (K:j7) (ta:TA):TI:=fun σ H R=>ta σ H fun vs H1=>∃a b xs ys,vs=[.ref a,.ref b]/\fC K H1 a xs/\fM K H1 b ys/\R (JF K a b) H1
theorem DZ {e1 e2:Expr}{es:List Expr}{kk:Nat}{pt p pos:Pos}{ta:TA} (hg:Gl X "zip") (hm:X.mg "zip"=none) (ha:PA X [e1,e2] ta) (hs:A2 [e1,e2] X.env=[(false,eval e1 X.env),(false,eval e2 X.env)]:=by rfl) (hs2:A2 [e2] X.env=[(false,eval e2 X.env)]:=by rfl):
  PI X (.Tuple es kk pt) (.Call (.Name "zip" p) [e1,e2] [] pos) (LV X.K ta):=
 zB hg hm ha (fun I ⟨_,_,_,_,e,hx,hy,h⟩=>⟨_,_,e,uZ (p:=false) (q:=true) I hx hy (fun D=>qZ D) h⟩) hs hs2
end
section
variable {X:Cx}{K:j7}
theorem BH {a b:Addr}{xs ys:List V}{σ0:St}{te:TE}{H:Hp}{F:List V->Hp->Prop} (hn:xs.length<=i7) (hxy:xs.length=ys.length) (Pv:Nat->List V->Hp->Prop) (h0:Pv 0 [] H) (hl:∀i zs H,Pv i zs H->zs.length=i)
  (hq:∀i zs H,i<=xs.length->Pv i zs H->fC K H a xs/\fM K H b ys) (hσ:σ0[0]?=some none/\σ0[1]?=some none)
  (hs:∀i zs H x y p,xs[i]?=some x->ys[i]?=some y->H p=none->Pv i zs H->te ((σ0.set 0 (some x)).set 1 (some y)) (A6 H p (.tup [x,y])) fun z H'=>Pv (i+1) (zs++[z]) H') (hd:∀zs H,Pv xs.length zs H->F zs H):
  BN (JF K a b) σ0 (Bq K 2 (lh (R7 0) (lh (R7 1) Fs))) T5 te H F:=by
 refine⟨fun i m zs H=>m=xs.length - i/\i<=xs.length/\Pv i zs H,⟨xs.length,by simp,A7 _,h0⟩,?_⟩
 rintro i m zs H2 ⟨rfl,hi,p⟩
 obtain⟨q1,q2⟩:=hq i zs H2 hi p
 refine⟨by rw[hl i zs H2 p];lia,?_⟩
 by_cases hlt:i<xs.length
 ·refine .inr ⟨⟨xs,ys,xs[i],ys[i]'(by lia),q1,q2,by simp[hlt],by rw[i6 (by lia)]⟩,fun y H'=>Pv (i+1) (zs++[y]) H',fun _=>False,fun y H' q=>⟨xs.length - (i+1),by lia,rfl,hlt,q⟩,fun _ q=>q.elim,fun v H3 yld=>?_⟩
  obtain⟨r,x,y,hr,rfl,rfl,hx,hy⟩:=yld
  exact⟨r,[x,y],rfl,.of j0,rfl,x,[y],rfl,y,[],rfl,rfl,wk2 hσ _ _,hs i zs _ x y r (hx xs q1) (hy ys q2) hr p⟩
 ·have e:i=xs.length:=by lia
  subst e
  exact .inl ⟨⟨xs,q1,i9 _⟩,hd zs H2 p⟩
end
section
variable {prog:i8}{w:t9}{A:y7}{E:b9->f6->Prop}{s:f6}
end
section
variable {X:Cx}
end
section
variable {X:Cx}{K:j7}
end
section
variable {prog:i8}{w:t9}{A:y7}{E:b9->f6->Prop}{s:f6}
end
section
variable {X:Cx}{pins:List (Addr × Obj)}{σ:St}{H:Hp}{s:f6}
end
section
variable {prog:i8}{w:t9}{A:y7}{E:b9->f6->Prop}{s:f6}
end
section
variable {X:Cx}{pins:List (Addr × Obj)}{σ:St}{H:Hp}{s:f6}
end
section
variable {X:Cx}
open Classical in
end
end L2
namespace So
open PySem PyProof.Rows PySem.Spec L2
section
variable {prog:i8}{w:t9}{A:y7}{E:b9->f6->Prop}{s:f6}{rk:X7->Int}{M:X7->Prop}{κ:dJ}
end
end So
namespace L2
open PySem PySem.Spec PyProof.Rows HT
section
variable {X:Cx}{H:Hp}
end
end L2
namespace L2
open PySem PySem.Spec PyProof.Rows
section
variable {X:Cx}
open Classical in
end
section
variable {X:Cx}
end
section
variable {prog:i8}{w:t9}{A:y7}{R:eW->f6->Prop}{s:f6}
theorem qN {kx vx target iter:Expr}{scope:M8}{pos:Pos}{it:b9}{D:Addr}{env:Env} (I:Nat->f6->Prop)
  (turn:∀n s,I n s->j6 (r0 prog w) A (Y4 it) (fun r s₁=>match r with
   | none=>R (.ok .next) s₁
   | some v=>j6 (r0 prog w) A (aL target it v) (fun _ s₁'=>j6 (r0 prog w) A (dI target env v) (fun _ s₃ =>
      j6 (r0 prog w) A (eval kx env) (fun kv s₄=>j6 (r0 prog w) A (eval vx env) (fun vv s₅ =>
       j6 (r0 prog w) A (dictSet D kv vv) (fun _ s₆=>∃m,m<n/\I m s₆) (fun _ _=>False) s₅) (fun _ _=>False) s₄) (fun _ _=>False) s₃) (fun _ _=>False) s₁') (fun _ _=>False) s₁) (fun _ _=>False) s)
  (n:Nat) (h:I n s):
  U8 (r0 prog w) A (.compLoop (.DictComp kx vx [⟨target,iter,[],0⟩] scope pos) 0 it (.ref D) env) R s:=by
 refine GD rfl I (fun n s hI=>?_) n h
 show j6 _ A ((compTurn (.DictComp kx vx [⟨target,iter,[],0⟩] scope pos) 0 it (.ref D) env).onRaise (fun x=>do dh x env;wO x)) _ _ s
 refine JI ?_
 rw[compTurn_dict]
 refine b7 (aO (b7 (B5 (turn n s hI) (fun r s₁ h₁=>?_) fun _ _ h'=>h'.elim)))
 cases r with
 | none=>exact g0 h₁
 | some v =>
  refine b7 (B5 h₁ (fun _ s₁' h₁'=>?_) fun _ _ h'=>h'.elim)
  refine b7 (B5 h₁' (fun _ s₂ h₂=>?_) fun _ _ h'=>h'.elim)
  simp only[cK]
  refine b7 (g0 ?_)
  simp only[if_true]
  refine b7 (b7 (B5 h₂ (fun kv s₄ h₄=>b7 (F0 (B5 h₄ (fun vv s₅ h₅=>b7 (aO (F0 (B5 h₅ (fun _ s₆ h₆=>g0 ⟨rfl,h₆⟩) fun _ _ h'=>h'.elim)))) fun _ _ h'=>h'.elim))) fun _ _ h'=>h'.elim))
end
section
variable {X:Cx}{pins:List (Addr × Obj)}{σ:St}{H H':Hp}{s s':f6}{scope:M8}{N:List Str}{ix:List (Option Nat)}{fp:List Addr}
theorem C0.comp_endD {pins':List (Addr × Obj)}{σ':St}{h':Heap} (I:C0 X pins σ H s) (J:C0 (X.comp scope N s H fp) pins' σ' H' s') (hfp:∀b∈fp,eR X pins H b)
  (hs:E7 s.heap.objs.size s'.heap h'):C0 X pins σ H' { s' with heap:=h' }:=by
 have oldC:∀b,b<s.heap.objs.size->b≠s.heap.objs.size:=fun b hb=>m9 hb
 have U:=J.base
 have un:Un (dz X.stack) fp H H' s.heap h':=by
  refine⟨fun b o e n hb hx=>?_,fun b o e n hb hx=>?_,fun b o e n hx=>?_,fun b o e hx=>?_,fun b xs e=>?_,fun b o u e=>?_,fun b ps e=>?_⟩
  ·exact(hs.2 b (oldC b (i5 e))).trans (U.keep b o e n hb hx)
  ·obtain⟨sl,q⟩:=U.slot b o e n hb hx
   exact⟨sl,(hs.2 b (oldC b (i5 e))).trans q⟩
  ·exact U.free b o e n hx
  ·obtain⟨o',q⟩:=U.there b o e hx
   exact⟨o',(hs.2 b (oldC b (i5 e))).trans q⟩
  ·exact U.tups b xs e
  ·exact U.frzs b o u e
  ·exact U.tbls b ps e
 have hC:H' s.heap.objs.size=none:=J.free
 have hok:bU X.prog X.w H' h':=fun b u e=>by
  refine (J.hok b u e).stay (fun c v hc q=>(hs.2 c ?_).trans q) (fun c q=>q) fun c xs q=>q
  rintro rfl
  rcases hc with z|z
  ·rw[<- z,hC] at e;cases e
  ·rw[hC] at z;cases z
 exact I.call' (s':={ s' with heap:=h' }) (ch:=fp) J.os un hok J.bare fun b hb=>⟨(hfp b hb).2.2.2.1,(hfp b hb).2.1,(hfp b hb).2.2.2.2.1,(hfp b hb).2.2.2.2.2⟩
end
section
variable {X:Cx}{scope:M8}{N:List Str}{ix:List (Option Nat)}{kx vx target iter:Expr}{pos:Pos}{wi:TI}{g:TG}{tk tv:TE}
def MC (J:It) (σ0:St) (g:TG) (tk tv:TE) (p:Addr) (H1:Hp) (F:Hp->Prop):Prop:=∃W:Nat->Nat->Hp->Prop,(∃m,W 0 m H1)/\∀i m H2,W i m H2 ->
 ((J.stop i H2/\F H2) ∨
  (J.go i H2/\∃Ny:Hp->Prop,(∀H,Ny H->∃m',m'<m/\W (i+1) m' H) /\
    ∀x H3,J.yld i H2 x H3->g x σ0 H3 fun σ2 H4=>Wk σ0 σ2/\tk σ2 H4 fun y H5=>tv σ2 H5 fun v H6=>∃H7,(∃kvs k,H6 p=some (.dK kvs)/\y=kV k/\kvs.length<i7/\H7=A6 H6 p (.dK (putK kvs k v)))/\Ny H7))
noncomputable abbrev dW (s:f6):f6:={ s with heap:=s.heap.push { cls:=.type "dict",data:=.dict #[] } }
theorem BK (s:f6):(dW s).heap.objs.size=s.heap.objs.size+1:=C5 ..
variable {H:Hp}
theorem IA {pins:List (Addr × Obj)}{σ:St}{s:f6}{a:Addr}{kvs:List (O4 × V)}{k:O4}{v:V}{u r:b9}{E:b9->f6->Prop}{Q:Unit->f6->Prop}{A:y7} (I:C0 X pins σ H s) (e:H a=some (.dK kvs)) (l:kvs.length<i7) (ry:G9 (kV k) u) (rv:G9 v r) (h:∀s',C0 X pins σ (A6 H a (.dK (putK kvs k v))) s'->(∀b q,b≠a->s.heap.get? b=some q->s'.heap.get? b=some q)->Q () s'):
  j6 (r0 X.prog X.w) A (dictSet a u r) Q E s:=by
 obtain⟨z,hd,vs,rel,dd⟩:=Jx I.hok e
 have hz:vs.length<=i7:=by rw[<- rel.length];exact z
 have hl:(putK kvs k v).length<=i7:=by have:=ja kvs k v;lia
 refine wpAny_dictSet_pairs (hsz:=hz) (pR ry) dd fun h' dd' hs=>h _ ?_ (fun b q hb hq=>(hs.2 b hb).trans hq)
 have he:∃q,h'.get? a=some q:=let ⟨q,_,_,hq,_⟩:=dd';⟨q,hq⟩
 exact nX I (by rw[e];exact V7) hs he (FC hl hd (rel.put k rv) dd')
theorem BA {pins:List (Addr × Obj)}{σ:St}{s:f6}{it:Addr}{fp:List Addr}{tn:Nat->Heap->Prop}{J:It}{F:Hp->Prop}{E:b9->f6->Prop}{RR:b9->Addr->eW->f6->Prop}
  (hc:X.calm=true) (hk:scope.kind=.function) (hnm:dQ scope=true) (hf:Y1 scope X.env=true) (hx:eZ scope X.N N ix=true)
  (hg:∀s H ex,PG (X.comp scope N s H ex) target g) (hkx:∀s H ex,PE (X.comp scope N s H ex) kx tk) (hvx:∀s H ex,PE (X.comp scope N s H ex) vx tv)
  (I:C0 X pins σ H s) (T:nE X.prog X.w X.K target J fp it tn) (st:tn 0 s.heap) (hfp:∀b∈fp,eR X pins H b) (B:MC J (aA ix σ) g tk tv s.heap.objs.size (A6 H s.heap.objs.size (.dK [])) F)
  (fin:∀(H':Hp) (s':f6) (σ':St),C0 X pins σ (A6 H s.heap.objs.size (.dK [])) (dW s)->(∀b∈fp,eR X pins (A6 H s.heap.objs.size (.dK [])) b)->C0 (X.comp scope N (dW s) (A6 H s.heap.objs.size (.dK [])) fp) [] σ' H' s'->F H'->RR (.ref s.heap.objs.size) (dW s).heap.objs.size (.ok .next) s'):
  j6 (r0 X.prog X.w) X.A newDict (fun acc s₃=>j6 (r0 X.prog X.w) X.A (ir scope X.env.globals (Q6 X.env scope.names []) [] X.env.qual none .none (some X.env)) (fun cenv s₄ =>
   U8 (r0 X.prog X.w) X.A (.compStart (.DictComp kx vx [⟨target,iter,[],0⟩] scope pos) 0 (.ref it) acc { cenv with scope:=kE scope X.env }) (RR acc cenv.locals) s₄) E s₃) E s:=by
 obtain⟨W,⟨m0,w0⟩,turn⟩:=B
 have I1:C0 X pins σ (A6 H s.heap.objs.size (.dK [])) (dW s):=I.laid (a:=s.heap.objs.size) (o:=.dK []) (h':=s.heap.push { cls:=.type "dict",data:=.dict #[] }) (t':=s.toks) (fun _ _ q=>d9 _ q) (i9 _) (FD s.heap I.big)
 refine E6 (iX ?_) (by show (#[]:Array M6).size<=_;exact A7 _)
 have fpLt:∀b∈fp,b<s.heap.objs.size:=fun b hb=>let ⟨o,e,_⟩:=T.obj 0 _ st b hb;i5 e
 generalize hH0:A6 H s.heap.objs.size (.dK [])=H0 at *
 have hfp1:∀b∈fp,eR X pins H0 b:=fun b hb=>by
  obtain⟨f0,f1,f2,f3,f4,f5⟩:=hfp b hb
  refine⟨?_,f1,f2,f3,f4,f5⟩
  rw[<- hH0,v9 (m9 (fpLt b hb))];exact f0
 have J0:C0 (X.comp scope N (dW s) H0 fp) [] (aA ix σ) H0 _:=I1.comp (N:=N) (ix:=ix) (ex:=fp) hk hnm hf hx fun b hb=>by
  obtain⟨f0,f1,f2,f3,f4,_⟩:=hfp1 b hb
  exact⟨f0,f1,f2,f3,f4,by rw[BK];exact K3 (fpLt b hb)⟩
 have keep0:∀b o,(dW s).heap.get? b=some o->(ao ((dW s).heap.push { cls:=.type "dict",data:=.dict #[] }) scope.names).get? b=some o:=fun b o e=>fP _ _ b o (d9 _ e)
 have st0:tn 0 (ao ((dW s).heap.push { cls:=.type "dict",data:=.dict #[] }) scope.names):=T.keep 0 _ _ st fun b hb o e=>keep0 b o (d9 _ e)
 have exOk:∀b∈fp,b≠(X.comp scope N (dW s) H0 fp).env.locals/\b ∉ (X.comp scope N (dW s) H0 fp).fs /\
   ∀x c,(X.comp scope N (dW s) H0 fp).env.cells.lookup x=some c->c≠b:=fun b hb=>⟨(J0.ok.exf b hb).1,J0.ok.exfs b hb,(J0.ok.exf b hb).2⟩
 have stat:∀{H':Hp},(∀b∈fp,H' b=none)->∀b∈fp,eR (X.comp scope N (dW s) H0 fp) [] H' b:=fun {H'} hn b hb=>by
  obtain⟨e1,e2,e3⟩:=exOk b hb
  exact⟨hn b hb,e1,e2,.inl hb,e3,fun p hp=>absurd (show p∈([]:List (Addr × Obj)) from (List.mem_append.mp hp).elim (fun z=>z) id) (by simp)⟩
 have loop:U8 (r0 X.prog X.w) X.A (.compLoop (.DictComp kx vx [⟨target,iter,[],0⟩] scope pos) 0 (.ref it) (.ref s.heap.objs.size) (X.comp scope N (dW s) H0 fp).env) (RR (.ref s.heap.objs.size) (dW s).heap.objs.size)
   { dW s with heap:=ao ((dW s).heap.push { cls:=.type "dict",data:=.dict #[] }) scope.names }:=by
  refine qN (fun n s'=>∃i H',C0 (X.comp scope N (dW s) H0 fp) [] (aA ix σ) H' s'/\tn i s'.heap/\(∀b∈fp,H' b=none)/\W i n H') ?_ m0
   ⟨0,H0,J0,st0,fun b hb=>(hfp1 b hb).1,w0⟩
  rintro n s3 ⟨i,H3,I3,st3,fr3,w3⟩
  rcases turn i n H3 w3 with ⟨stop,fy⟩|⟨go,Ny,hNy,step⟩
  ·refine P1 (T.done (X.comp scope N (dW s) H0 fp) rfl rfl rfl hc i _ s3 (aA ix σ) H3 (fun _ _=>False) I3 (stat fr3) st3 stop) fun r s4 ⟨hr,I4⟩=>?_
   subst hr
   exact fin H3 s4 _ I1 hfp1 I4 fy
  ·refine P1 (T.item (X.comp scope N (dW s) H0 fp) rfl rfl rfl hc i _ s3 (aA ix σ) H3 (fun _ _=>False) I3 (stat fr3) st3 go) fun r s4 ⟨u,hr,h4⟩=>?_
   subst hr
   refine P1 h4 fun _ s5 ⟨x,H5,I5,r5,y5,st5,fr5⟩=>?_
   have I5':=I5.pinned (stat fr5) (T.obj _ _ st5)
   refine P1 (hg (dW s) H0 fp _ s5 (aA ix σ) H5 x u _ I5' r5 (step x H5 y5)) fun _ s6 ⟨σ6,H6,I6,wk6,q6⟩=>?_
   refine P1 (hkx (dW s) H0 fp _ s6 σ6 H6 _ I6 q6) fun kv s7 ⟨y,H7,I7,r7,q7⟩=>?_
   refine P1 (hvx (dW s) H0 fp _ s7 σ6 H7 _ I7 q7) fun vv s8 ⟨v,H8,I8,r8,q8⟩=>?_
   obtain⟨H9,⟨kvs,k,hD,ey,hl,e9⟩,hN9⟩:=q8
   subst ey e9
   refine IA (X:=X.comp scope N (dW s) H0 fp) (A:=X.A) I8 hD hl r7 r8 fun s9 I9 kp9=>?_
   obtain⟨m',hm,w9⟩:=hNy _ hN9
   refine⟨m',hm,i+1,_,(I9.weak wk6.1 wk6.2).pins_of (fun p hp=>by cases hp),?_,fun b hb=>?_,w9⟩
   ·exact T.keep _ _ _ st5 fun b hb o e=>(I9.pin (b,o) (n5 _ (n5 _ (S5 hb e)))).1
   ·obtain⟨o,e,d⟩:=T.obj _ _ st5 b hb
    exact(I9.pin (b,o) (n5 _ (n5 _ (S5 hb e)))).2.1
 exact codeAny_compStart_dict loop (T.self _ 0 _ _ _ st0 loop)
theorem pX {env:Env}:eval (.DictComp kx vx [⟨target,iter,[],0⟩] scope pos) env=comprehension (.DictComp kx vx [⟨target,iter,[],0⟩] scope pos) scope env (firstIterPos [⟨target,iter,[],0⟩] pos) newDict (firstAsync [⟨target,iter,[],0⟩]) (firstIter [⟨target,iter,[],0⟩] env):=arm_eval_DictComp ..
theorem Ek (hc:X.calm=true) (hi:PI X target iter wi) (hg:∀s H ex,PG (X.comp scope N s H ex) target g) (hkx:∀s H ex,PE (X.comp scope N s H ex) kx tk) (hvx:∀s H ex,PE (X.comp scope N s H ex) vx tv)
  (hk:scope.kind=.function) (hnm:dQ scope=true) (hf:Y1 scope X.env=true) (hx:eZ scope X.N N ix=true) (hs:∀x,dE iter X.env x=pure x):
  PE X (.DictComp kx vx [⟨target,iter,[],0⟩] scope pos) (fun σ H Q=>wi σ H fun J H1=>∀p,H1 p=none->MC J (aA ix σ) g tk tv p (A6 H1 p (.dK [])) fun H2=>Q (.ref p) H2):=by
 intro pins s σ H Q I h
 rw[pX]
 refine cx (use:=none) rfl hs (aZ (I.closed hf)) hk (fun x hx hl=>(da hnm hx).trans (by rw[hl])) ?_
 refine P1 (hi pins s σ H _ I h) fun v s1 h1=>P1 h1 fun itv s2 h2=>?_
 obtain⟨it,fp,tn,J,H2,e,I2,T,st2,f2,B⟩:=h2
 subst e
 have hn2:=I2.hok.fresh (i9 s2.heap.objs.size)
 refine BA (RR:=fun acc C=>Ao (r0 X.prog X.w) X.A X.xe none (EP X pins σ Q) acc C) hc hk hnm hf hx hg hkx hvx I2 T st2 f2 (B _ hn2) ?_
 intro H' s' σ' I1 hfp1 J' hF
 obtain⟨m,hm,_⟩:=J'.loc
 exact⟨m,hm,fun h' hs'=>⟨.ref s2.heap.objs.size,_,I1.comp_endD J' hfp1 hs',rfl,hF⟩⟩
theorem yG {lo:Int}{n:Nat}{σ0:St}{p:Addr}{F:Hp->Prop} (Pv:Nat->Hp->Prop) (h0:Pv 0 H) (hσ:σ0[0]?=some none)
  (hs:∀i H,i<n->Pv i H->tk (σ0.set 0 (some (.int (lo+i)))) H fun y H5=>tv (σ0.set 0 (some (.int (lo+i)))) H5 fun v H6=>∃H7,(∃kvs k,H6 p=some (.dK kvs)/\y=kV k/\kvs.length<i7/\H7=A6 H6 p (.dK (putK kvs k v)))/\Pv (i+1) H7) (hd:∀H,Pv n H->F H):MC (JG lo n) σ0 (R7 0) tk tv p H F:=by
 refine⟨fun i m H=>m=n - i/\i<=n/\Pv i H,⟨n,by simp,A7 _,h0⟩,?_⟩
 rintro i m H2 ⟨rfl,hi,q⟩
 by_cases hlt:i<n
 ·refine .inr ⟨hlt,fun H'=>Pv (i+1) H',fun H' q=>⟨n - (i+1),by lia,rfl,hlt,q⟩,fun x H3 y=>?_⟩
  obtain⟨rfl,rfl⟩:=y
  exact⟨Wk.set (.inl hσ),hs i _ hlt q⟩
 ·have e:i=n:=by lia
  subst e
  exact .inl ⟨i9 _,hd H2 q⟩
end
section
variable {X:Cx}
theorem vf:∀{ys:List Str}{us:List b9},G6 (ys.map V.str) us->StrsAre us ys
 | [],_,h=>by cases h;exact .nil
 | y::ys,_,h=>by
  cases h with
  | cons r rs =>
   obtain⟨t,rfl⟩:=r
   exact .cons y t (vf rs)
theorem rf:∀(k:Nat) (ys:List Str),G6 (ys.map V.str) (strsFrom k ys)
 | _,[]=>.nil
 | k,y::ys=>.cons ⟨_,rfl⟩ (rf (k+1) ys)
noncomputable def Oc (K:j7):V->List V->Hp->VK->Prop:=fun x vs H Q=>∃(sep:Str) (p:Addr) (ys:List Str),x=.str sep/\vs=[.ref p]/\fM K H p (ys.map V.str)/\(ys.map fun y=>y.length).sum+ys.length*sep.length<=16777216/\Q (.str (D7 sep ys)) H
theorem dR:MY X "str.join" (Oc X.K):=by
 intro pins s σ H x vs v us Q I rx rv h
 obtain⟨sep,p,ys,rfl,rfl,hp,hz,q⟩:=h
 obtain⟨t,rfl⟩:=rx
 obtain⟨u,rfl,ru⟩:=rv.one
 cases ru
 obtain⟨its,r,pl,_⟩:=I.list hp
 exact join_list pl.isList (by simpa using vf r) hz fun t' k=>⟨.str _,H,I.tok k,⟨_,rfl⟩,q⟩
noncomputable def KY:V->List V->Hp->VK->Prop:=fun x vs H Q=>∃(a sep:Str),x=.str a/\vs=[.str sep]/\(sep.length == 0)=false/\a.length<=900/\∀p,H p=none->Q (.ref p) (A6 H p (.lst ((A8 a sep).map V.str)))
theorem pD:MY X "str.split" KY:=by
 intro pins s σ H x vs v us Q I rx rv h
 obtain⟨a,sep,rfl,rfl,h0,hl,q⟩:=h
 obtain⟨t,rfl⟩:=rx
 obtain⟨u,rfl,ru⟩:=rv.one
 obtain⟨t2,rfl⟩:=ru
 have hn:=I.hok.fresh (i9 s.heap.objs.size)
 have big:=sz (show 1000<=1000 by decide)
 have lay:∀(its:List b9) (k:Nat),G6 ((A8 a sep).map V.str) its->(A8 a sep).length<=i7->EP X pins σ Q (.ref s.heap.objs.size) { s with heap:=s.heap.push { cls:=.type "list",data:=.seq its.toArray },toks:=k }:=fun its k hv hz =>
  ⟨.ref s.heap.objs.size,_,I.laid (a:=s.heap.objs.size) (o:=.lst ((A8 a sep).map V.str)) (t':=k) (fun _ _ q=>d9 _ q) (i9 _) ⟨by rw[d8];exact hz,its,0,hv,j8 _ rfl⟩,rfl,q _ hn⟩
 have one:∀k,A8 a sep=[a]->EP X pins σ Q (.ref s.heap.objs.size) { s with heap:=s.heap.push { cls:=.type "list",data:=.seq #[aV a t] },toks:=k }:=fun k e=>by
  have:=lay [aV a t] k (by rw[e];exact .cons ⟨t,rfl⟩ .nil) (by rw[e];exact j9 (show 1<=1000 by decide) big)
  exact this
 by_cases hc:(decide (a.length<sep.length) || decide (S4 a<S4 sep))=true
 ·have e:A8 a sep=[a]:=by unfold A8;rw[if_pos hc]
  refine qx T8 (iq s a t) gD (fQ _ _) (meets_str_split_cannot_occur a sep t t2 hc) (one _ e)
 ·have hc':=Bool.eq_false_iff.mpr hc
  by_cases ho:(C7 a sep 0 a.length (a.length+1)).isEmpty=true
  ·have e:A8 a sep=[a]:=by unfold A8;rw[if_neg hc,if_pos ho]
   refine qx T8 (iq s a t) gD (fQ _ _) (meets_str_split_not_found a sep t t2 hc' h0 ho) (one _ e)
  ·have e:A8 a sep=oi a (C7 a sep 0 a.length (a.length+1)) sep.length:=by unfold A8;rw[if_neg hc,if_neg ho]
   have hz:(oi a (C7 a sep 0 a.length (a.length+1)) sep.length).length<=i7:=by
    have h1:=kD a sep (by have:=bne_iff_ne.mp (show (sep.length != 0)=true by unfold bne;rw[h0];rfl);lia)
    rw[e] at h1
    exact j9 (show _<=1000 by lia) big
   refine qx T8 (iq s a t) gD (fQ _ _) (meets_str_split_sep a sep t t2 hc' h0 (Bool.eq_false_iff.mpr ho) (j9 hl (j9 (by decide) big)) hz) ?_
   rw[<- e]
   exact lay _ _ (rf _ _) (by rw[e];exact hz)
abbrev TJx:=St->Hp->(Str->Hp->Prop)->Prop
theorem fV (a b c:Str):a++b++c=a++(b++c):=congrArg Nm lH
theorem zd (a:Str):a++V6=a:=congrArg Nm Array.append_empty
noncomputable def MX (X:Cx) (es:List Expr) (n:Nat) (t:TJx):Prop :=
 ∀(acc:Str),acc.length<=n->∀(pins:List (Addr × Obj)) (s:f6) (σ:St) (H:Hp) (Q:Str->Hp->Prop),C0 X pins σ H s->t σ H Q ->
  j6 (r0 X.prog X.w) X.A (nJ acc (sd es X.env)) (fun u s'=>∃z H',C0 X pins σ H' s'/\G9 (.str (acc++z)) u/\Q z H') X.xe s
section
variable {es:List Expr}{n:Nat}{t:TJx}
theorem HB (h:n<=i7:=by decide):MX X [] n (fun _ H Q=>Q V6 H):=by
 intro acc ha pins s σ H Q I q
 exact joinParts_nil (s:=s) ⟨V6,H,I.tok _,by rw[zd];exact⟨_,rfl⟩,q⟩ (j9 ha h)
theorem HA {x:Str}{j:Nat}{pos:Pos} (h:MX X es (n+x.length) t) (hz:n+x.length<=i7:=by decide):MX X (.Constant (.str x) j pos::es) n (fun σ H Q=>t σ H fun z H1=>Q (x++z) H1):=by
 intro acc ha pins s σ H Q I q
 show j6 _ _ (nJ acc (eval (.Constant (.str x) j pos) X.env::sd es X.env)) _ _ _
 refine ng (lG ⟨?_,?_⟩)
 ·rw[B4];lia
 ·exact P1 (h (acc++x) (by rw[B4];lia) pins _ σ H _ (I.tok _) q) fun u s1 ⟨z,H1,I1,r,q1⟩=>⟨x++z,H1,I1,by rw[<- fV];exact r,q1⟩
theorem Eg {v1 v2:Expr}{V3:List Expr}{pos:Pos} (h:MX X (v1::v2::V3) 0 t):PE X (.JoinedStr (v1::v2::V3) pos) (fun σ H Q=>t σ H fun z H1=>Q (.str z) H1):=by
 intro pins s σ H Q I q
 refine JoinedStr_many (P1 (h V6 (i9 _) pins s σ H _ I q) fun u s1 ⟨z,H1,I1,r,q1⟩=>⟨.str z,H1,I1,?_,q1⟩)
 have e:V6++z=z:=congrArg Nm Array.empty_append
 rw[e] at r
 exact r
end
end
noncomputable def jl (c:Nat):List (List Nat)->List Nat
 | []=>[]
 | [p]=>p
 | p::q::r=>p++c::jl c (q::r)
theorem Ac {c:Nat}:∀{p q u v:List Nat},c ∉ p->c ∉ q->p++c::u=q++c::v->p=q/\u=v
 | [],[],_,_,_,_,h=>⟨rfl,(cM h).2⟩
 | [],b::q,_,_,_,hq,h=>by
  have:=(cM h).1
  exact absurd (by rw[this];exact f9) hq
 | a::p,[],_,_,hp,_,h=>by
  have:=(cM h).1
  exact absurd (by rw[<- this];exact f9) hp
 | a::p,b::q,_,_,hp,hq,h=>by
  obtain⟨h1,h2⟩:=cM h
  obtain⟨e1,e2⟩:=Ac (fun z=>hp (i4 _ z)) (fun z=>hq (i4 _ z)) h2
  exact⟨by rw[h1,e1],e2⟩
theorem Fk {c:Nat}:∀{ps qs:List (List Nat)},ps≠[]->qs≠[]->(∀p∈ps,c ∉ p)->(∀p∈qs,c ∉ p)->jl c ps=jl c qs->ps=qs
 | [],_,h,_,_,_,_=>absurd rfl h
 | _,[],_,h,_,_,_=>absurd rfl h
 | [p],[q],_,_,_,_,e=>by rw[show p=q from e]
 | [p],q::q2::qs,_,_,hp,_,e=>by
  have e':p=q++c::jl c (q2::qs):=e
  exact absurd (by rw[e'];simp) (hp p f9)
 | p::p2::ps,[q],_,_,_,hq,e=>by
  have e':p++c::jl c (p2::ps)=q:=e
  exact absurd (by rw[<- e'];simp) (hq q f9)
 | p::p2::ps,q::q2::qs,_,_,hp,hq,e=>by
  have e':p++c::jl c (p2::ps)=q++c::jl c (q2::qs):=e
  obtain⟨e1,e2⟩:=Ac (hp p f9) (hq q f9) e'
  have:=Fk (by simp) (by simp) (fun x hx=>hp x (i4 _ hx)) (fun x hx=>hq x (i4 _ hx)) e2
  rw[e1,this]
theorem dS (c:Nat):∀ys:List Str,(eg ⟨#[c]⟩ ys).cps.toList=jl c (ys.map fun y=>y.cps.toList)
 | []=>rfl
 | [y]=>by rw[rZ];rfl
 | x::y::r=>by
  rw[bD]
  have ih:=dS c (y::r)
  show ((x.cps++#[c])++(eg ⟨#[c]⟩ (y::r)).cps).toList=_
  simp only[kK,ih]
  show _=x.cps.toList++c::jl c ((y::r).map fun y=>y.cps.toList)
  simp
theorem FK (d:C1):∀l:List C1,0<=jh d l
 | []=>by unfold jh;decide
 | a::l=>by
  have:=FK d l
  unfold jh
  split <;> lia
theorem zY {c:Nat}:∀{l:List Nat},c∈l->jh (.str ⟨#[c]⟩) (l.map fun n=>.str ⟨#[n]⟩)≠0
 | a::l,h=>by
  have h0:=FK (.str ⟨#[c]⟩) (l.map fun n=>.str ⟨#[n]⟩)
  rw[r9]
  unfold jh
  by_cases e:c=a
  ·subst e
   have:Spec.same (.str ⟨#[c]⟩) (.str ⟨#[c]⟩)=true:=by unfold Spec.same;simp
   rw[this]
   simp only[if_true]
   lia
  ·have hm:c∈l:=(List.mem_cons.mp h).resolve_left e
   have:=zY hm
   split <;> lia
theorem ze {a b:Str} (h:a.cps.toList=b.cps.toList):a=b:=by
 cases a with
 | mk x=>cases b with
  | mk y=>exact congrArg Nm (Array.toList_inj.mp h)
theorem jO {c:Nat}{ys:List Str} (hn:ys≠[]) (hy:∀y∈ys,c ∉ y.cps.toList):A8 (eg ⟨#[c]⟩ ys) ⟨#[c]⟩=ys:=by
 have h:=split_closes (eg ⟨#[c]⟩ ys) c
 rw[w6] at h
 obtain⟨h1,h2⟩:=h
 have e:=LawfulBEq.eq_of_beq h1
 have hp:A8 (eg ⟨#[c]⟩ ys) ⟨#[c]⟩≠[]:=fun z=>by
  have:=split_pos (eg ⟨#[c]⟩ ys) ⟨#[c]⟩
  rw[z] at this
  exact absurd this (by decide)
 have hq:∀y∈A8 (eg ⟨#[c]⟩ ys) ⟨#[c]⟩,c ∉ y.cps.toList:=fun y hy hc=>by
  have z:=List.all_eq_true.mp h2 y hy
  rw[decide_eq_true (zY hc)] at z
  cases z
 generalize A8 (eg ⟨#[c]⟩ ys) ⟨#[c]⟩=zs at e hp hq
 have e2:jl c (zs.map fun y=>y.cps.toList)=jl c (ys.map fun y=>y.cps.toList):=by rw[<- dS,<- dS,e]
 have e3:=Fk (by simpa using hp) (by simpa using hn) (fun p hp=>by obtain⟨y,hy,z⟩:=List.mem_map.mp hp;rw[<- z];exact hq y hy) (fun p hp=>by obtain⟨y,hy',z⟩:=List.mem_map.mp hp;rw[<- z];exact hy y hy') e2
 exact(List.map_inj_right fun x y h=>ze h).mp e3
noncomputable def ki:C1->Bool
 | .str _=>true
 | _=>false
theorem Ig (K:j7) (d:C1):bV K (.type (MP d)) (.type "str")=some (ki d):=by cases d <;> kernel_rfl
end L2
namespace G
open PySem PySem.Spec PyProof.Rows L2 Mt
structure Gv (mg:Str->Option b9):Prop where
 str:mg "str"=none
def tx (i:Int):Str:=M5 (toString i)
theorem Ka:∀i:Fin 41,(tx (i.1:Int)).cps.toList.contains 44=false/\(tx (i.1:Int)).cps.toList.contains 47=false/\(tx (i.1:Int)).length<=2:=by decide+kernel
theorem GL:∀i j:Fin 21,tx (i.1:Int)=tx (j.1:Int)->i=j:=by decide+kernel
theorem mH {i:Int} (h0:0<=i) (h:i<=40):44 ∉ (tx i).cps.toList/\47 ∉ (tx i).cps.toList/\(tx i).length<=2:=by
 have e:((i.toNat:Nat):Int)=i:=Int.toNat_of_nonneg h0
 have:=Ka ⟨i.toNat,by lia⟩
 dsimp only at this
 rw[e] at this
 obtain⟨h1,h2,h3⟩:=this
 exact⟨fun z=>(by rw[List.contains_iff_mem.mpr z] at h1;cases h1),fun z=>(by rw[List.contains_iff_mem.mpr z] at h2;cases h2),h3⟩
theorem Kb {i j:Nat} (hi:i<=20) (hj:j<=20) (h:tx (i:Int)=tx (j:Int)):i=j:=by
 have:=GL ⟨i,by lia⟩ ⟨j,by lia⟩ h
 exact congrArg Fin.val this
theorem vI {i:Int} (h0:0<=i) (h:i<=1000):i.natAbs.log2<1920:=by
 rcases nj i.natAbs with e|e
 ·rw[e];decide
 ·exact y9 ((ez (by lia)).mpr (show i.natAbs<2 ^ 10 by lia)) (by decide)
theorem vN (g:Array Nat):∀(ps:List Str) (a b:Array Nat),uG (fun acc (p:Str)=>acc++g++p.cps) (a++b) ps=a++uG (fun acc (p:Str)=>acc++g++p.cps) b ps
 | [],_,_=>rfl
 | p::ps,a,b=>by
  rw[qS,qS,<- vN g ps a (b++g++p.cps)]
  simp[lH]
theorem U6 (sep:Str):∀ys:List Str,D7 sep ys=eg sep ys
 | []=>rfl
 | [y]=>by rw[rZ];rfl
 | x::y::r=>by
  rw[bD,<- U6 sep (y::r)]
  show (⟨uG (fun acc (p:Str)=>acc++sep.cps++p.cps) x.cps (y::r)⟩:Str)=⟨(x.cps++sep.cps)++uG (fun acc (p:Str)=>acc++sep.cps++p.cps) y.cps r⟩
  rw[qS,vN]
def nT (ns:List Int):Str:=D7 "," (ns.map tx)
def rT (rs:List (List Int)):Str:=D7 "/" (rs.map nT)
theorem vW:(",":Str)=⟨#[44]⟩:=by decide+kernel
theorem zk:("/":Str)=⟨#[47]⟩:=by decide+kernel
theorem rF:(",":Str).length=1:=by rw[vW];rfl
theorem js:("/":Str).length=1:=by rw[zk];rfl
variable {ns:List Int}
theorem oq (hn:ns≠[]) (h:∀x∈ns,0<=x/\x<=20):A8 (nT ns) ","=ns.map tx:=by
 unfold nT
 rw[U6,vW]
 refine jO (by simpa using hn) fun y hy=>?_
 obtain⟨x,hx,e⟩:=List.mem_map.mp hy
 have:=h x hx
 rw[<- e];exact(mH this.1 (by lia)).1
theorem tV {c d:Nat}:∀{ps:List (List Nat)},d∈jl c ps->d=c ∨ ∃p∈ps,d∈p
 | [],h=>by cases h
 | [p],h=>.inr ⟨p,f9,h⟩
 | p::q::r,h=>by
  have h':d∈p++c::jl c (q::r):=h
  rcases List.mem_append.mp h' with z|z
  ·exact .inr ⟨p,f9,z⟩
  ·rcases List.mem_cons.mp z with z|z
   ·exact .inl z
   ·rcases tV z with z|⟨p',hp,hd⟩
    ·exact .inl z
    ·exact .inr ⟨p',i4 _ hp,hd⟩
theorem yf (h:∀x∈ns,0<=x/\x<=20):47 ∉ (nT ns).cps.toList:=fun z=>by
 unfold nT at z
 rw[U6,vW,dS] at z
 rcases tV z with e|⟨p,hp,hd⟩
 ·cases e
 ·rw[cJ] at hp
  obtain⟨x,hx,e⟩:=List.mem_map.mp hp
  have:=h x hx
  subst e
  exact(mH this.1 (by lia)).2.1 hd
variable {rs:List (List Int)}
theorem vg (hn:rs≠[]) (h:∀r∈rs,∀x∈r,0<=x/\x<=20):A8 (rT rs) "/"=rs.map nT:=by
 unfold rT
 rw[U6,zk]
 refine jO (by simpa using hn) fun y hy=>?_
 obtain⟨x,hx,e⟩:=List.mem_map.mp hy
 rw[<- e];exact yf (h x hx)
theorem yt {c m:Nat}:∀{ps:List (List Nat)},(∀p∈ps,p.length<=m)->(jl c ps).length<=(m+1)*ps.length
 | [],_=>by simp[jl]
 | [p],h=>by
  have:=h p f9
  show p.length<=(m+1)*1
  lia
 | p::q::r,h=>by
  have h1:=h p f9
  have h2:=yt (c:=c) (ps:=q::r) fun x hx=>h x (i4 _ hx)
  show (p++c::jl c (q::r)).length<=_
  rw[y6,m8,m8 (a:=p),Y0]
  lia
theorem yr (hl:ns.length<=4) (h:∀x∈ns,0<=x/\x<=20):(nT ns).length<=12:=by
 have h1:(jl 44 ((ns.map tx).map fun y=>y.cps.toList)).length<=3*((ns.map tx).map fun y=>y.cps.toList).length:=yt (m:=2) fun p hp=>by
  obtain⟨y,hy,e⟩:=List.mem_map.mp hp
  obtain⟨x,hx,e2⟩:=List.mem_map.mp hy
  have:=h x hx
  have h3:=(mH this.1 (by lia)).2.2
  rw[<- e,<- e2,B8];exact h3
 rw[<- dS,<- vW,<- U6,d8,d8] at h1
 have e:(nT ns).length=(D7 "," (ns.map tx)).cps.toList.length:=by rw[B8];rfl
 lia
theorem Fc (hl:rs.length<=4) (h:∀r∈rs,r.length<=4/\∀x∈r,0<=x/\x<=20):(rT rs).length<=52:=by
 have h1:(jl 47 ((rs.map nT).map fun y=>y.cps.toList)).length<=13*((rs.map nT).map fun y=>y.cps.toList).length:=yt (m:=12) fun p hp=>by
  obtain⟨y,hy,e⟩:=List.mem_map.mp hp
  obtain⟨x,hx,e2⟩:=List.mem_map.mp hy
  have:=h x hx
  have h3:=yr this.1 this.2
  rw[<- e,<- e2,B8];exact h3
 rw[<- dS,<- zk,<- U6,d8,d8] at h1
 have e:(rT rs).length=(D7 "/" (rs.map nT)).cps.toList.length:=by rw[B8];rfl
 lia
theorem aW {m:Nat}:∀{ys:List Str},(∀y∈ys,y.length<=m)->(ys.map fun y=>y.length).sum<=m*ys.length
 | [],_=>by simp
 | y::ys,h=>by
  have h1:=h y f9
  have h2:=aW (ys:=ys) fun x hx=>h x (i4 _ hx)
  rw[r9,P9,m8,Y0]
  lia
section
variable {P:i8}{w:t9}{K:j7}{mg:Str->Option b9}{base:Heap}{f:Addr}{fd:A9}{ec:Nat->Addr}{Bs:Addr}
def mK:Sp:=fun vs H Q _=>∃(a:Addr) (ns:List Int),vs=[.ref a]/\H a=some (.tup (ns.map V.int))/\ns.length<=4/\(∀x∈ns,0<=x/\x<=20)/\∀H',n8 H H'->Q (.str (nT ns)) H'
abbrev KF:Stmt:=top 50
theorem NV:B1 ["numbers"] ["numbers"] (r6 KF):=⟨rfl,rfl,rfl,by decide+kernel,rfl,by decide+kernel,by decide+kernel⟩
theorem Ou (F:Y3 K "numbers_text" "numbers_text" KF f fd) (B2:Gv mg):G7 P w K mg base cQ 1 f fd ["numbers"] mK:=by
 refine F.ok NV (fun vs H Q E h=>?_) (fun cdv A outer s H vs Q E hr h=>?_)
 ·obtain⟨a,ns,rfl,_⟩:=h
  rfl
 obtain⟨a,ns,rfl,ha,hl,hb,q⟩:=h
 refine⟨_,(@n6 _ _ _ (A5 (cZ D2 L7 L6 dR D0 (@b8 _ _ _ _ _ (O1 (N:=["number"]) (ix:=[none]) (ifs:=[]) (tc:=T5) rfl (jV (pv 0))
   (fun s H ex=>bz (i:=0) (by decide+kernel) rfl (A4 rfl) (.inr rfl)) (fun s H ex=>L8) (fun s H ex=>(D9 N5 rfl B2.str aM (@b8 _ _ _ _ _ (pv 0) f7 (by rfl)))) rfl (by decide+kernel) (by rfl) (by rfl) (fun _=>rfl)) f7 (by rfl))))),?_⟩
 refine⟨rfl,_,rfl,a,rfl,⟨_,.of ha⟩,?_⟩
 refine ic (K:=K) (a:=a) (xs:=ns.map V.int) (sz (by rw[d8];lia)) (fun i ys H2=>n8 H H2/\ys=((ns.take i).map tx).map V.str/\ys.length=i)
  ⟨n8.refl _,rfl,rfl⟩ (fun i ys H2 h=>h.2.2) (fun i ys H2 _ h=>.of (h.1 _ _ ha)) rfl (fun i ys H2 v hv h=>?_) (fun ys H2 h=>?_)
 ·obtain⟨g2,hy,hyl⟩:=h
  rw[v8] at hv
  obtain⟨x,hx,ex⟩:=Option.map_eq_some_iff.mp hv
  subst ex
  have hxb:=hb x (y8 hx)
  refine⟨_,rfl,x,rfl,vI hxb.1 (by lia),g2,?_,by rw[y6,hyl];rfl⟩
  rw[hy,D1,hx,w5,w5]
  rfl
 ·obtain⟨g2,hy,hyl⟩:=h
  rw[d8,J4 (i9 _)] at hy
  subst hy
  intro p hp
  have hsl:=aW (m:=2) (ys:=ns.map tx) fun y hy=>by
   obtain⟨x,hx,e⟩:=List.mem_map.mp hy
   have:=hb x hx
   rw[<- e];exact(mH this.1 (by lia)).2.2
  rw[d8] at hsl
  refine⟨_,p,ns.map tx,rfl,rfl,.of j0,?_,q _ (g2.trans (n8.new hp))⟩
  rw[d8,rF]
  lia
end
section
variable {P:i8}{w:t9}{K:j7}{mg:Str->Option b9}{base:Heap}{f:Addr}{fd:A9}{ec:Nat->Addr}{Bs:Addr}
def CP:Sp:=fun vs H Q _=>∃(st a:Addr) (ns:List Int) (n:Nat),vs=[.ref a]/\Dt st H (DI ns) (.ref a)/\Mt.gx n 20 ns/\1<=n/\n<=4/\∀H',n8 H H'->Q (.str (nT ns)) H'
abbrev KA:Stmt:=top 51
theorem NU:B1 ["urn"] ["urn"] (r6 KA):=⟨rfl,rfl,rfl,by decide+kernel,rfl,by decide+kernel,by decide+kernel⟩
theorem Oo (F:Y3 K "urn_text" "urn_text" KA f fd) (c1:O9 P w K mg base 5 "need_urn" ["thing"] (cW ec)) (c2:S6 P w K mg base 5 "numbers_text" ["numbers"] mK):G7 P w K mg base cQ 6 f fd ["urn"] CP:=by
 refine F.ok NU (fun vs H Q E h=>?_) (fun cdv A outer s H vs Q E hr h=>?_)
 ·obtain⟨st,a,ns,n,rfl,_⟩:=h
  rfl
 obtain⟨st,a,ns,n,rfl,hd,hU,n1,n4,q⟩:=h
 refine⟨_,(@j5 _ _ _ _ _ (X9 (G1 c1 hr rfl lZ (@b8 _ _ _ _ _ (pv 0) f7 (by rfl))))
  (@n6 _ _ _ (A5 (B0 c2 hr rfl (@b8 _ _ _ _ _ (pv 0) f7 (by rfl)))))),?_⟩
 have hl:=hU.len
 obtain⟨a',ea,_,ha⟩:=hd.di
 cases ea
 refine⟨_,rfl,_,st,_,rfl,hd,W0 (by lia),fun _ H1 g1=>⟨_,rfl,a,ns,rfl,g1 _ _ ha,by lia,hU.nn,fun H2 g2=>q _ (g1.trans g2)⟩,fun e=>?_⟩
 rw[gG hU n1 n4] at e
 cases e
def fT (t b:Int):Str:=if b=1 then tx t else tx t++("/"++tx b)
abbrev KO:Stmt:=top 52
theorem Dk:B1 ["fraction","top","bottom"] ["fraction"] (r6 KO):=⟨rfl,rfl,rfl,by decide+kernel,rfl,by decide+kernel,by decide+kernel⟩
end
noncomputable def Ie (n:Nat):List (O4 × V):=(O5 n).map fun j:Nat=>((C8 (tx (j:Int)):O4),V.int (j:Int))
theorem qW {α:Type} [DecidableEq α] {f:Nat->α}{g:Nat->V}{k:α}:∀{l:List Nat},(∀i∈l,f i≠k)->eD (l.map fun i=>(f i,g i)) k=none
 | [],_=>rfl
 | a::l,h=>by
  rw[r9,fU (h a f9)]
  exact qW fun i hi=>h i (i4 _ hi)
theorem Ic {n:Nat} (hn:n<=20):putK (Ie n) (C8 (tx (n:Int))) (.int (n:Int))=Ie (n+1):=by
 rw[DU]
 ·unfold Ie;rw[qR,w5];rfl
 ·exact qW (f:=fun j:Nat=>(C8 (tx (j:Int)):O4)) (g:=fun j:Nat=>V.int (j:Int)) fun i hi e=>by
   have h1:=List.mem_range.mp hi
   have:=Kb (by lia) (by lia) (MG e)
   lia
noncomputable def zw (n:Nat) (x:Str):Option Nat:=(O5 n).find? fun j:Nat=>decide ((C8 (tx (j:Int)):O4)=C8 x)
noncomputable def AO (n:Nat) (x:Str):V:=match zw n x with
 | none=>.non
 | some j=>.int (j:Int)
noncomputable def qr (n:Nat):List Str->Option (List Int)
 | []=>some []
 | x::xs=>match zw n x,qr n xs with
  | some j,some ns=>some ((j:Int)::ns)
  | _,_=>none
theorem Ib (n:Nat) (x:Str):(eD (Ie n) (C8 x)).getD .non=AO n x:=by
 unfold eD Ie AO zw
 rw[List.find?_map,Option.map_map]
 generalize hq:(List.find? ((fun kv:O4 × V=>decide (kv.1=C8 x)) ∘ fun j:Nat=>((C8 (tx (j:Int)):O4),V.int (j:Int))) (O5 n))=r
 have hq':(O5 n).find? (fun j:Nat=>decide ((C8 (tx (j:Int)):O4)=C8 x))=r:=hq
 rw[hq']
 cases r <;> rfl
theorem KS {n j:Nat}{x:Str} (h:zw n x=some j):j<n:=List.mem_range.mp (gw h)
theorem kR {n:Nat}:∀{xs:List Str}{ns:List Int},qr n xs=some ns->xs.map (AO n)=ns.map V.int/\ns.length=xs.length/\∀z∈ns,0<=z/\z<(n:Int)
 | [],ns,h=>by
  cases h
  exact⟨rfl,rfl,by simp⟩
 | x::xs,ns,h=>by
  unfold qr at h
  cases h1:zw n x with
  | none=>rw[h1] at h;cases h
  | some j =>
   cases h2:qr n xs with
   | none=>rw[h1,h2] at h;cases h
   | some ms =>
    rw[h1,h2] at h
    cases h
    obtain⟨e1,e2,e3⟩:=kR h2
    refine⟨?_,by rw[m8,m8,e2],fun z hz=>?_⟩
    ·rw[r9,r9,e1]
     unfold AO
     rw[h1]
    ·have:=KS h1
     rcases List.mem_cons.mp hz with e|e
     ·rw[e];lia
     ·exact e3 z e
theorem DM (n:Nat) (x:Str):lj (AO n x)=true:=by
 unfold AO
 cases zw n x <;> rfl
theorem DN {n:Nat}:∀xs:List Str,inV .non (xs.map (AO n))=(qr n xs).isNone
 | []=>rfl
 | x::xs=>by
  have ih:=DN (n:=n) xs
  unfold inV at ih ⊢
  rw[r9,aw,ih]
  have e:qr n (x::xs)=(match zw n x,qr n xs with
   | some j,some ns=>some ((j:Int)::ns)
   | _,_=>none):=rfl
  rw[e]
  unfold AO
  generalize qr n xs=r
  cases zw n x with
  | none=>simp[Gp]
  | some j=>cases r <;> simp[Gp]
theorem lL (t:Str):(A8 t ",").length<=t.length+1:=by
 have:=kD t "," (by decide+kernel)
 lia
section
variable {P:i8}{w:t9}{K:j7}{mg:Str->Option b9}{base:Heap}{f:Addr}{fd:A9}{ec:Nat->Addr}{Bs:Addr}
def oA (ec:Nat->Addr):Sp:=fun vs H Q E=>∃(st:Addr) (d:C1) (v:V),vs=[v]/\Dt st H d v/\(ki d=true->Q .non H)/\(ki d=false->E (.ref (ec 9)) none H)
abbrev Dw:Stmt:=top 54
theorem Ks:B1 ["thing"] ["thing"] (r6 Dw):=⟨rfl,rfl,rfl,by decide+kernel,rfl,by decide+kernel,by decide+kernel⟩
theorem Lo (F:Y3 K "need_text" "need_text" Dw f fd) (B:Bt mg) (B2:Gv mg) (R:jA K mg ec Bs):G7 P w K mg base (cj P w) 1 f fd ["thing"] (oA ec):=by
 refine F.okX Ks (fun vs H Q E h=>?_) (fun cdv A outer s H vs Q E hr h=>?_)
 ·obtain⟨st,d,v,rfl,_⟩:=h
  rfl
 obtain⟨st,d,v,rfl,hd,q1,q2⟩:=h
 refine⟨_,(@n6 _ _ _ (K4 (cB (az (A1 (df Ig) rfl B.isinstance E3 (@b8 _ _ _ _ _ (pv 0) (@b8 _ _ _ _ _ (gU rfl B2.str aM) f7 (by rfl)) (by rfl))))) (@n6 _ _ _ (U0 R.e9 (R.xc 9 (by decide)) D0 (fun σ H Q Q' m q=>m _ _ q))) D4)),?_⟩
 refine⟨_,rfl,v,st,d,rfl,hd,_,rfl,?_⟩
 cases hs:ki d with
 | true=>exact N3 (q1 hs)
 | false=>exact O2 (q2 hs)
def zg:Sp:=fun vs H Q _=>∃(t:Str) (m:Nat),vs=[.str t,.int m]/\m<=20/\t.length<=900/\(qr (m+1) (A8 t ",")=none->∀H',n8 H H'->Q .non H') /\
 ∀ns,qr (m+1) (A8 t ",")=some ns->∀p H',n8 H H'->(∀b o,H b=some o->b≠p)->H' p=some (.tup (ns.map V.int))->Q (.ref p) H'
abbrev KG:Stmt:=top 53
theorem Dh:B1 ["text","most","known","numbers"] ["text","most"] (r6 KG):=⟨rfl,rfl,rfl,by decide+kernel,rfl,by decide+kernel,by decide+kernel⟩
theorem Ov (F:Y3 K "numbers_read" "numbers_read" KG f fd) (B:Bt mg) (B2:Gv mg):G7 P w K mg base cQ 1 f fd ["text","most"] zg:=by
 refine F.ok Dh (fun vs H Q E h=>?_) (fun cdv A outer s H vs Q E hr h=>?_)
 ·obtain⟨t,m,rfl,_⟩:=h
  rfl
 obtain⟨t,m,rfl,hm,hl,q0,q⟩:=h
 refine⟨_,(@j5 _ _ _ _ _ (@F7 _ _ 2 _ _ _ _ Dh.nd rfl (bf rfl) (Ek (N:=["number"]) (ix:=[none]) rfl (U3 rfl B.range (@b8 _ _ _ _ _ (@J6 _ _ _ _ _ _ _ _ cE (pv 1) t8) f7 (by rfl)))
   (fun s H ex=>bz (i:=0) (by decide+kernel) rfl (A4 rfl) (.inr rfl)) (fun s H ex=>(D9 N5 rfl B2.str aM (@b8 _ _ _ _ _ (pv 0) f7 (by rfl)))) (fun s H ex=>(pv 0)) rfl (by decide+kernel) (by rfl) (by rfl) (fun _=>rfl)) (by rfl) (by first|exact .inl rfl|exact .inr rfl))
  (@j5 _ _ _ _ _ (iQ (N:=["word","known"]) (ix:=[none,some 2]) (ifs:=[]) (tc:=T5) (i:=3) rfl Dh.nd rfl rfl  (gR (cZ D2 T8 iu pD (pv 0) (@b8 _ _ _ _ _ D0 f7 (by rfl))))
   (fun s H ex=>bz (i:=0) (by decide+kernel) rfl (A4 rfl) (.inr rfl)) (fun s H ex=>L8) (fun s H ex=>(Ej (fq hr) (pv 1) (pv 0) ⟨rfl,rfl,rfl,rfl⟩)) rfl (by decide+kernel) (by rfl) (by rfl) (fun _=>rfl) (by rfl))
  (@n6 _ _ _ (A5 (oZ (@E4 _ _ _ _ _ _ _ _ AW tM (pv 3) (by rfl)) tM (D9 M9 rfl B.tuple R3 (@b8 _ _ _ _ _ (pv 3) f7 (by rfl)))))))),?_⟩
 refine⟨_,rfl,_,_,rfl,rfl,((m+1:Nat):Int),rfl,by lia,by lia,fun pk hpk=>?_⟩
 rw[Q4]
 refine yG (lo:=0) (n:=m+1) (fun i Hi=>n8 H Hi/\Hi pk=some (.dK (Ie i))) ⟨n8.new hpk,j0⟩ rfl (fun i Hi hi h=>?_) (fun H2 h=>?_)
 ·obtain⟨gi,hpi⟩:=h
  have ei:(0:Int)+(i:Int)=(i:Int):=by lia
  rw[ei]
  refine⟨_,rfl,(i:Int),rfl,vI (by lia) (by lia),_,rfl,_,⟨Ie i,C8 (tx (i:Int)),hpi,rfl,?_,rfl⟩,?_,?_⟩
  ·have:(Ie i).length=i:=by unfold Ie;rw[d8,aF]
   rw[this]
   have:=sz (show i+1<=1000 by lia)
   lia
  ·exact fun b o e=>Kp.at _ _ (fun z=>by rw[z,hpk] at e;cases e) (gi _ _ e)
  ·rw[j0,Ic (by lia)]
 obtain⟨g2,hpk2⟩:=h
 have hsl:=lL t
 refine⟨_,rfl,rfl,t,_,rfl,rfl,by decide+kernel,hl,fun ps hps=>?_⟩
 generalize A8 t ","=wds at hsl q0 q
 have g3:n8 H2 (A6 H2 ps (.lst (wds.map V.str))):=n8.new hps
 have hps3:A6 H2 ps (.lst (wds.map V.str)) ps=some (.lst (wds.map V.str)):=j0
 try dsimp -proj only
 generalize A6 H2 ps (.lst (wds.map V.str))=H3 at g3 hps3
 have hpk3:=g3 _ _ hpk2
 refine⟨ps,rfl,⟨_,.of hps3⟩,?_⟩
 refine qe (K:=K) (a:=ps) (xs:=wds.map V.str) (sz (by rw[d8];lia)) (fun j ys Hj=>n8 H3 Hj/\ys=(wds.take j).map (AO (m+1))/\ys.length=j)
  ⟨n8.refl _,rfl,rfl⟩ (fun j ys Hj h=>h.2.2) (fun j ys Hj _ h=>.of (h.1 _ _ hps3)) rfl (fun j ys Hj v hv h=>?_) (fun ys Hj h=>?_)
 ·obtain⟨gj,hy,hyl⟩:=h
  rw[v8] at hv
  obtain⟨x,hx,ex⟩:=Option.map_eq_some_iff.mp hv
  subst ex
  have hD:=cG.k (k:=C8 x) (gj _ _ hpk3)
  refine⟨_,rfl,pk,rfl,.inl ⟨_,.inl (gj _ _ hpk3)⟩,_,rfl,_,hD,gj,?_,by rw[y6,hyl];rfl⟩
  rw[hy,D1,hx,w5,Ib]
  rfl
 obtain⟨gj,hy,hyl⟩:=h
 rw[d8,J4 (i9 _)] at hy
 subst hy
 intro pn hpn
 have g4:n8 Hj (A6 Hj pn (.lst (wds.map (AO (m+1))))):=n8.new hpn
 have hpn4:A6 Hj pn (.lst (wds.map (AO (m+1)))) pn=some (.lst (wds.map (AO (m+1)))):=j0
 try dsimp -proj only
 generalize A6 Hj pn (.lst (wds.map (AO (m+1))))=H4 at g4 hpn4
 have gT:n8 H H4:=(g2.trans g3).trans (gj.trans g4)
 refine⟨_,rfl,pn,_,rfl,.inl (.of hpn4),rfl,?_,_,rfl,?_⟩
 ·rw[U9]
  exact List.all_eq_true.mpr fun x _=>DM _ x
 rw[DN]
 cases hr':qr (m+1) wds with
 | none=>exact O2 (q0 hr' _ gT)
 | some ns =>
  refine N3 ⟨_,rfl,pn,_,rfl,.inl ⟨.of hpn4,fun t' ht=>?_⟩⟩
  have e:=(kR hr').1
  refine q ns hr' t' _ (gT.trans (n8.new ht)) (fun b o e=>u9 (gT _ _ e) ht) ?_
  rw[j0,e]
end
theorem zj {k:Int} (h1:1<=k) (h4:k<=4):Sm k:=by
 have h:k=1 ∨ k=2 ∨ k=3 ∨ k=4:=by lia
 rcases h with rfl|rfl|rfl|rfl <;> (unfold Sm;decide+kernel)
noncomputable def MO (t:Str):Option (List Int):=match qr 21 (A8 t ",") with
 | none=>none
 | some ns=>if Q5 20 (DI ns)=true then some ns else none
noncomputable def zv:List Str->Option (List (List Int))
 | []=>some []
 | x::xs=>match qr 6 (A8 x ","),zv xs with
  | some r,some rs=>some (r::rs)
  | _,_=>none
noncomputable def Hr (n:Int) (t:Str):Option (List (List Int)):=match zv (A8 t "/") with
 | none=>none
 | some rs=>if K8 n (DR rs)=true then some rs else none
noncomputable def tD (x:Str):C1:=match qr 6 (A8 x ",") with
 | none=>.none
 | some ns=>DI ns
theorem oP:∀{xs:List Str}{rs:List (List Int)},zv xs=some rs->xs.map tD=rs.map DI
 | [],rs,h=>by cases h;rfl
 | x::xs,rs,h=>by
  have e:zv (x::xs)=(match qr 6 (A8 x ","),zv xs with
   | some r,some rs=>some (r::rs)
   | _,_=>none):=rfl
  rw[e] at h
  cases h1:qr 6 (A8 x ",") with
  | none=>rw[h1] at h;cases h
  | some r =>
   cases h2:zv xs with
   | none=>rw[h1,h2] at h;cases h
   | some ms =>
    rw[h1,h2] at h
    cases h
    rw[r9,r9,oP h2]
    unfold tD
    rw[h1]
theorem vo:∀{xs:List Str},zv xs=none->PyData.none∈xs.map tD
 | [],h=>by cases h
 | x::xs,h=>by
  have e:zv (x::xs)=(match qr 6 (A8 x ","),zv xs with
   | some r,some rs=>some (r::rs)
   | _,_=>none):=rfl
  rw[e] at h
  cases h1:qr 6 (A8 x ",") with
  | none =>
   rw[r9]
   have:tD x=.none:=by unfold tD;rw[h1]
   rw[this];exact f9
  | some r =>
   cases h2:zv xs with
   | none=>exact i4 _ (vo h2)
   | some ms=>rw[h1,h2] at h;cases h
theorem Hq {n:Int}{t:Str} (h:Hr n t=none):K8 n (.tuple ((A8 t "/").map tD))=false:=by
 unfold Hr at h
 cases h1:zv (A8 t "/") with
 | none =>
  cases h2:K8 n (.tuple ((A8 t "/").map tD)) with
  | false=>rfl
  | true =>
   have h3:(decide ((((A8 t "/").map tD).length:Int)=n)&&((A8 t "/").map tD).all (fun r=>S2 0 5 r&&decide ((bI r:Int)=n)))=true:=h2
   rw[w6] at h3
   have:=List.all_eq_true.mp h3.2 _ (vo h1)
   cases this
 | some rs =>
  rw[h1] at h
  dsimp only at h
  rw[oP h1]
  show K8 n (DR rs)=false
  by_cases h2:K8 n (DR rs)=true
  ·rw[if_pos h2] at h;cases h
  ·exact Bool.eq_false_iff.mpr h2
theorem DK {n:Int}{t:Str}(h:Hr n t=some rs):(A8 t "/").map tD=rs.map DI/\K8 n (DR rs)=true:=by
 unfold Hr at h
 cases h1:zv (A8 t "/") with
 | none=>rw[h1] at h;cases h
 | some rs' =>
  rw[h1] at h
  dsimp only at h
  by_cases h2:K8 n (DR rs')=true
  ·rw[if_pos h2] at h
   cases h
   exact⟨oP h1,h2⟩
  ·rw[if_neg h2] at h;cases h
theorem KR {t:Str}:∀x∈A8 t "/",x.length<=t.length:=fun x hx=>by
 have h:=kD t "/" (by decide+kernel)
 have:∀(l:List Str),x∈l->x.length<=(l.map fun y=>y.length).sum:=fun l=>by
  induction l with
  | nil=>intro h;cases h
  | cons a l ih =>
   intro h
   rw[r9,P9]
   rcases List.mem_cons.mp h with e|e
   ·rw[e];lia
   ·have:=ih e;lia
 have h1:=this _ hx
 have h2:=ji hx
 lia
theorem xm (t:Str):(A8 t "/").length<=t.length+1:=by
 have:=kD t "/" (by decide+kernel)
 lia
section
variable {P:i8}{w:t9}{K:j7}{mg:Str->Option b9}{base:Heap}{f:Addr}{fd:A9}{ec:Nat->Addr}{Bs:Addr}
def CQ (ec:Nat->Addr):Sp:=fun vs H Q E=>∃(st:Addr) (d:C1) (v:V),vs=[v]/\Dt st H d v/\(ki d=false->∀H',n8 H H'->E (.ref (ec 9)) none H') /\
 ∀t,d=.str t->t.length<=900/\(MO t=none->∀H',n8 H H'->E (.ref (ec 9)) none H')/\∀ns,MO t=some ns->∀p H',n8 H H'->(∀b o,H b=some o->b≠p)->H' p=some (.tup (ns.map V.int))->Q (.ref p) H'
abbrev KB:Stmt:=top 55
theorem Jk:B1 ["text","urn"] ["text"] (r6 KB):=⟨rfl,rfl,rfl,by decide+kernel,rfl,by decide+kernel,by decide+kernel⟩
theorem Oq (F:Y3 K "urn_read" "urn_read" KB f fd) (C:Ct mg) (R:jA K mg ec Bs) (c1:O9 P w K mg base 5 "need_text" ["thing"] (oA ec)) (c2:S6 P w K mg base 5 "numbers_read" ["text","most"] zg) (c3:S6 P w K mg base 5 "is_urn" ["thing"] fX):G7 P w K mg base (cj P w) 6 f fd ["text"] (CQ ec):=by
 refine F.okX Jk (fun vs H Q E h=>?_) (fun cdv A outer s H vs Q E hr h=>?_)
 ·obtain⟨st,d,v,rfl,_⟩:=h
  rfl
 obtain⟨st,d,v,rfl,hd,q1,q2⟩:=h
 obtain⟨tbl,hbl⟩:=C.balls
 refine⟨_,(@j5 _ _ _ _ _ (X9 (G1 c1 hr rfl K0 (@b8 _ _ _ _ _ (pv 0) f7 (by rfl))))
  (@j5 _ _ _ _ _ (@F7 _ _ 1 _ _ _ _ Jk.nd rfl (A4 rfl) (B0 c2 hr rfl (@b8 _ _ _ _ _ (pv 0) (@b8 _ _ _ _ _ (O6 (v:=.int 20) rfl hbl ⟨tbl,rfl⟩) f7 (by rfl)) (by rfl))) (by rfl) (by first|exact .inl rfl|exact .inr rfl))
  (@j5 _ _ _ _ _ (K4 (cB (az (B0 c3 hr rfl (@b8 _ _ _ _ _ (pv 1) f7 (by rfl))))) (@n6 _ _ _ (U0 R.e9 (R.xc 9 (by decide)) D0 (fun σ H Q Q' m q=>m _ _ q))) D4)
  (@n6 _ _ _ (A5 (pv 1)))))),?_⟩
 refine⟨_,rfl,st,d,v,rfl,hd,fun hs=>?_,fun hs=>q1 hs H (n8.refl H)⟩
 obtain⟨t,ed⟩:∃t,d=.str t:=by
  cases d with
  | str x=>exact⟨x,rfl⟩
  | _=>cases hs
 subst ed
 have ev:v=.str t:=by unfold Dt at hd;exact hd
 subst ev
 obtain⟨hl,qn,qs⟩:=q2 t rfl
 unfold MO at qn qs
 refine⟨_,rfl,t,20,rfl,by decide,hl,fun e H1 g1=>?_,fun ns e p H1 g1 fr hp=>?_⟩
 ·refine⟨_,rfl,_,0,.none,rfl,by unfold Dt;rfl,(fun ds z=>by cases z),fun H2 g2=>⟨_,rfl,O2 ?_⟩⟩
  refine qn ?_ H2 (g1.trans g2)
  rw[e]
 ·obtain⟨e1,e2,e3⟩:=kR e
  have hsl:=lL t
  refine⟨_,rfl,_,p+1,DI ns,rfl,Dt.mkI (m9 (J3 p)) hp,W0 (by lia),fun H2 g2=>⟨_,rfl,?_⟩⟩
  cases hu:Q5 20 (DI ns) with
  | true =>
   refine N3 ⟨_,rfl,qs ns ?_ p H2 (g1.trans g2) fr (g2 _ _ hp)⟩
   rw[e]
   show (if Q5 20 (DI ns)=true then some ns else none)=_
   rw[hu];rfl
  | false =>
   refine O2 (qn ?_ H2 (g1.trans g2))
   rw[e]
   show (if Q5 20 (DI ns)=true then some ns else none)=_
   rw[hu];rfl
def CS (ec:Nat->Addr):Sp:=fun vs H Q E=>∃(l:Addr) (o:HO) (dk d:C1) (u v:V),vs=[u,v]/\H l=some o/\Dt l H dk u/\Dt l H d v/\(af 1 4 dk=false->∀H',n8 H H'->E (.ref (ec 5)) none H') /\
 ∀n:Int,dk=.int n->1<=n->n<=4->(ki d=false->∀H',n8 H H'->E (.ref (ec 9)) none H') /\
  ∀t,d=.str t->t.length<=900/\(Hr n t=none->∀H',n8 H H'->E (.ref (ec 9)) none H')/\∀rs,Hr n t=some rs->∀p H',n8 H H'->Dt l H' (DR rs) (.ref p)->Q (.ref p) H'
abbrev KD:Stmt:=top 56
theorem Jl:B1 ["kinds","text","rule"] ["kinds","text"] (r6 KD):=⟨rfl,rfl,rfl,by decide+kernel,rfl,by decide+kernel,by decide+kernel⟩
theorem Ot (F:Y3 K "rule_read" "rule_read" KD f fd) (B:Bt mg) (C:Ct mg) (R:jA K mg ec Bs) (c1:O9 P w K mg base 5 "need_number" ["thing","low","high"] (ay ec)) (c2:O9 P w K mg base 5 "need_text" ["thing"] (oA ec)) (c3:S6 P w K mg base 5 "numbers_read" ["text","most"] zg) (c4:O9 P w K mg base 5 "is_rule" ["kinds","thing"] (gK ec)):G7 P w K mg base (cj P w) 6 f fd ["kinds","text"] (CS ec):=by
 refine F.okX Jl (fun vs H Q E h=>?_) (fun cdv A outer s H vs Q E hr h=>?_)
 ·obtain⟨l,o,dk,d,u,v,rfl,_⟩:=h
  rfl
 obtain⟨l,o,dk,d,u,v,rfl,hlo,hdk,hd,q5,q9⟩:=h
 obtain⟨tkd,hkd⟩:=C.kinds
 obtain⟨tpt,hpt⟩:=C.puts
 refine⟨_,(@j5 _ _ _ _ _ (X9 (G1 c1 hr rfl K0 (@b8 _ _ _ _ _ (pv 0) (@b8 _ _ _ _ _ t8 (@b8 _ _ _ _ _ (O6 (v:=.int 4) rfl hkd ⟨tkd,rfl⟩) f7 (by rfl)) (by rfl)) (by rfl))))
  (@j5 _ _ _ _ _ (X9 (G1 c2 hr rfl K0 (@b8 _ _ _ _ _ (pv 1) f7 (by rfl))))
  (@j5 _ _ _ _ _ (@F7 _ _ 2 _ _ _ _ Jl.nd rfl (A4 rfl) (D9 M9 rfl B.tuple R3 (@b8 _ _ _ _ _ (O1 (N:=["row"]) (ix:=[none]) (ifs:=[]) (tc:=T5) rfl (gR (cZ D2 T8 iu pD (pv 1) (@b8 _ _ _ _ _ D0 f7 (by rfl))))
   (fun s H ex=>bz (i:=0) (by decide+kernel) rfl (A4 rfl) (.inr rfl)) (fun s H ex=>L8) (fun s H ex=>(B0 c3 hr rfl (@b8 _ _ _ _ _ (pv 0) (@b8 _ _ _ _ _ (O6 (v:=.int 5) rfl hpt ⟨tpt,rfl⟩) f7 (by rfl)) (by rfl)))) rfl (by decide+kernel) (by rfl) (by rfl) (fun _=>rfl)) f7 (by rfl))) (by rfl) (by first|exact .inl rfl|exact .inr rfl))
  (@j5 _ _ _ _ _ (K4 (cB (az (G1 c4 hr rfl K0 (@b8 _ _ _ _ _ (pv 0) (@b8 _ _ _ _ _ (pv 2) f7 (by rfl)) (by rfl))))) (@n6 _ _ _ (U0 R.e9 (R.xc 9 (by decide)) (tN (lW (tJ (pv 0) (lW xV)))) (fun σ H Q Q' m q=>?_))) D4)
  (@n6 _ _ _ (A5 (pv 2))))))),?_⟩
 ·obtain⟨v1,z1,i1,z2,z3,z4,z5⟩:=q
  exact⟨v1,z1,i1,z2,z3,z4,fun z=>m _ _ (z5 z)⟩
 refine⟨_,rfl,u,l,dk,1,4,rfl,hdk,zj (by decide) (by decide),zj (by decide) (by decide),fun hw=>?_,fun hw=>q5 hw H (n8.refl H)⟩
 obtain⟨n,ed,n1,n4⟩:=jM hw
 subst ed
 have eu:u=.int n:=hdk.unint
 subst eu
 obtain⟨qb,qt⟩:=q9 n rfl n1 n4
 refine⟨_,rfl,l,d,v,rfl,hd,fun hs=>?_,fun hs=>qb hs H (n8.refl H)⟩
 obtain⟨t,ed⟩:∃t,d=.str t:=by
  cases d with
  | str x=>exact⟨x,rfl⟩
  | _=>cases hs
 subst ed
 have ev:v=.str t:=by unfold Dt at hd;exact hd
 subst ev
 obtain⟨hl,qn,qs⟩:=qt t rfl
 have hsl:=xm t
 have hsz:∀x∈A8 t "/",x.length<=900:=fun x hx=>j9 (KR x hx) hl
 refine⟨_,rfl,rfl,t,_,rfl,rfl,by decide+kernel,hl,fun ps hps=>?_⟩
 have hrn:=Hq (n:=n) (t:=t)
 have hri:=fun rs=>DK (n:=n) (t:=t) (rs:=rs)
 generalize A8 t "/"=wds at hsl hsz hrn hri
 have g3:n8 H (A6 H ps (.lst (wds.map V.str))):=n8.new hps
 have hps3:A6 H ps (.lst (wds.map V.str)) ps=some (.lst (wds.map V.str)):=j0
 try dsimp -proj only
 generalize A6 H ps (.lst (wds.map V.str))=H3 at g3 hps3
 refine⟨ps,rfl,⟨_,.of hps3⟩,?_⟩
 refine qe (K:=K) (a:=ps) (xs:=wds.map V.str) (sz (by rw[d8];lia)) (fun j ys Hj=>n8 H3 Hj/\T6 l Hj ((wds.take j).map tD) ys/\ys.length=j)
  ⟨n8.refl _,T6.nil _ _,rfl⟩ (fun j ys Hj h=>h.2.2) (fun j ys Hj _ h=>.of (h.1 _ _ hps3)) rfl (fun j ys Hj v hv h=>?_) (fun ys Hj h=>?_)
 ·obtain⟨gj,hD,hyl⟩:=h
  rw[v8] at hv
  obtain⟨x,hx,ex⟩:=Option.map_eq_some_iff.mp hv
  subst ex
  have step:∀(z:V) (Hk:Hp),n8 Hj Hk->Dt l Hk (tD x) z->n8 H3 Hk/\T6 l Hk ((wds.take (j+1)).map tD) (ys++[z])/\(ys++[z]).length=j+1:=fun z Hk gk hz=>by
   refine⟨gj.trans gk,?_,by rw[y6,hyl];rfl⟩
   rw[D1,hx,w5]
   exact(hD.kp (gk.kp l)).append (T6.cons hz (T6.nil _ _))
  refine⟨_,rfl,x,5,rfl,by decide,hsz x (y8 hx),fun e Hk gk=>step _ Hk gk ?_,fun ns e p1 Hk gk fr hp1=>step _ Hk gk ?_⟩
  ·have:tD x=.none:=by unfold tD;rw[e]
   rw[this];unfold Dt;rfl
  ·have:tD x=DI ns:=by unfold tD;rw[e]
   rw[this];exact Dt.mkI (fr l o ((g3.trans gj) _ _ hlo)).symm hp1
 obtain⟨gj,hD,hyl⟩:=h
 rw[d8,J4 (i9 _)] at hD
 intro p2 hp2
 have g4:n8 Hj (A6 Hj p2 (.lst ys)):=n8.new hp2
 have hp2':A6 Hj p2 (.lst ys) p2=some (.lst ys):=j0
 try dsimp -proj only
 generalize A6 Hj p2 (.lst ys)=Ha at g4 hp2'
 refine⟨p2,_,rfl,.inl ⟨.of hp2',fun t' ht=>?_⟩⟩
 have g5:n8 Ha (A6 Ha t' (.tup ys)):=n8.new ht
 have gA:=(g3.trans gj).trans g4
 have hdt:Dt l (A6 Ha t' (.tup ys)) (.tuple (wds.map tD)) (.ref t'):=Dt.tup (u9 (gA _ _ hlo) ht).symm j0 (hD.kp ((g4.trans g5).kp l))
 try dsimp -proj only
 generalize A6 Ha t' (.tup ys)=Hb at g5 hdt
 refine⟨_,rfl,_,rfl,.int n,.ref t',l,.int n,_,rfl,Dt.int _ _ _,fun e=>?_,fun k ek k1 k4=>⟨hdt,?_,?_,fun Hc gc=>⟨_,rfl,?_⟩⟩⟩
 ·exfalso
  rw[hw] at e;cases e
 ·intro ds e
  cases e
  rw[d8];lia
 ·intro ds e r hr'
  cases e
  obtain⟨x,hx,ex⟩:=List.mem_map.mp hr'
  subst ex
  intro ds e
  unfold tD at e
  cases h6:qr 6 (A8 x ",") with
  | none=>rw[h6] at e;cases e
  | some ns =>
   rw[h6] at e
   cases e
   have:=(kR h6).2.1
   have h7:=lL x
   have h8:=hsz x hx
   rw[d8];lia
 ·cases ek
  cases hu:Hr n t with
  | none =>
   rw[hrn hu]
   exact O2 ⟨_,rfl,n,rfl,(zj n1 n4).1,(zj n1 n4).2,fun z=>qn hu Hc ((gA.trans g5).trans gc)⟩
  | some rs =>
   obtain⟨e1,e2⟩:=hri rs hu
   rw[e1]
   rw[show K8 n (.tuple (rs.map DI))=true from e2]
   refine N3 ⟨_,rfl,qs rs hu t' Hc ((gA.trans g5).trans gc) ?_⟩
   have:=hdt.kp (gc.kp l)
   rw[e1] at this
   exact this
end
end G
namespace L2
open PySem PySem.Spec PyProof.Rows
section
variable {prog:i8}{w:t9}{A:y7}{E:b9->f6->Prop}{s:f6}
end
section
variable {X:Cx}{pins:List (Addr × Obj)}{σ:St}{H:Hp}{p d it:Addr}{rs:List Addr}{kvs:List (O4 × V)}{A:y7}{R:eW->f6->Prop}
end
section
variable {X:Cx}{pins:List (Addr × Obj)}{σ:St}{H:Hp}{s:f6}
end
section
variable {X:Cx}
noncomputable def rSlS:V->Option Int->Option Int->Hp->VK->Prop:=fun x lo hi H Q=>∃a,x=.str a/\a.length<=i7/\Q (.str (Txt.slice a lo hi)) H
end
def Kk (X:Cx) (k iC:Nat):TE:=fun σ H Q=>∃fa sp,σ[iC]?=some (some (.ref fa))/\Gb X k fa sp H/\sp [] H Q (fun _ _ _=>False)
theorem Em {X:Cx}{k iC:Nat}{xc:Str}{p1 p2:Pos} (hr:Y9 k X.A) (hC:X.N[iC]?=some xc) (hCv:MV X.env.scope xc)
  (d1:(xc == ("__debug__":Str))=false:=by decide) (d2:(xc == ("__classdict__":Str))=false:=by decide):PE X (.Call (.Name xc p1) [] [] p2) (Kk X k iC):=by
 intro pins s σ H Q I h
 obtain⟨fa,sp,e0,⟨fo,fd,kn,hfd,bnd,F⟩,hsp⟩:=h
 refine X4 ?_
 have hv:=tL (X:=X.nox) (i:=iC) (x:=xc) (pos:=p1) hC hCv d1 d2 pins s σ H (fun v H1=>v=.ref fa/\H1=H) (I.wish _) ⟨_,e0,rfl,rfl⟩
 refine B5 hv (fun u s1 ⟨v,H1,I1,r,ev,eH⟩=>?_) fun _ _ z=>D6 z
 subst ev
 subst eH
 obtain rfl:u=n9 fa:=r
 have I2:C0 X pins σ H1 s1:=I1.unwish
 have hfa:W.FnAt fa s1.heap:=by
  have z:=I2.hok.kn kn
  obtain⟨c,d,dt,sl⟩:=fo
  dsimp only at hfd
  subst hfd
  exact⟨c,d,fd,sl,z⟩
 refine W.callWith_F0 hfa (ip (aE (F.run X.A X.stack s1 H1 ⟨[],[]⟩ [] [] _ _ hr I2.env0 (.of_eq bnd) .nil hsp) fun res s' hq=>?_))
 cases res with
 | ok fl =>
  cases fl with
  | ret u =>
   obtain⟨v,H',I3,rv,q3⟩:=I2.after hq
   exact⟨v,H',I3,rv,q3⟩
  | next=>exact D6 hq
  | brk=>exact D6 hq
  | cont=>exact D6 hq
 | error e =>
  obtain⟨a,C,H',rfl,F1,z⟩:=hq
  exact z.elim
section
variable {prog:i8}{w:t9}{A:y7}{E:b9->f6->Prop}{s:f6}
theorem rL {it t:Addr}{items:Array b9} (hne:t≠it):∀(n i:Nat) (s:f6) (Q:List b9->f6->Prop),s.heap.IsListIter it t i->s.heap.IsList t items->i+n<=items.size ->
  (∀h',h'.IsListIter it t (i+n)->E7 it s.heap h'->Q ((items.toList.drop i).take n) { s with heap:=h' })->j6 (r0 prog w) A (draw (.ref it) n) Q E s
 | 0,i,s,Q,hit,_,_,hQ=>by
  show j6 _ _ (pure []) Q E s
  exact g0 (by simpa using hQ s.heap hit (uX ..))
 | n+1,i,s,Q,hit,ht,hle,hQ=>by
  have hlt:i<items.size:=by lia
  show j6 _ _ (Y4 (.ref it) >>= _) Q E s
  refine b7 (Gw hit ht (x:=items[i]) (by simp[hlt]) fun h₁ hit₁ hs₁=>?_)
  refine b7 (F0 (rL hne n (i+1) _ _ hit₁ (ht.at fun o e=>hs₁.extBut _ _ hne e) (by lia) fun h₂ hit₂ hs₂=>g0 ?_))
  have hd:items.toList.drop i=items[i]::items.toList.drop (i+1):=by simp[List.drop_eq_getElem_cons,hlt]
  have:=hQ h₂ (by rw[show i+(n+1)=i+1+n by lia];exact hit₂) (hs₁.trans hs₂)
  rw[hd,List.take_succ_cons] at this
  exact this
end
section
variable {X:Cx}{pos:Pos}
end
theorem iU {X:Cx}{e:Expr}{t:TE} (h:PE X e t):PE X e (fun σ H Q=>t σ H fun v H'=>(∀b,fN X.env.cells b->H' b=none)->Q v H'):=fun pins s σ H Q I q =>
 P1 (h pins s σ H _ I q) fun u s' ⟨v,H',I',r,q'⟩=>⟨v,H',I',r,q' fun b ⟨y,e⟩=>I'.freeC y b e⟩
theorem GY {cl:List (Str × Addr)}{H H':Hp} (h:∀b,fN cl b->H' b=none):n8 H' (vw cl H H'):=fun b o e=>by
 rw[bR fun z=>by rw[h b z] at e;cases e]
 exact e
def kW (c:Nat):Str:=⟨#[c]⟩
noncomputable def Pu (x:Str):It:=⟨fun i _=>i<x.cps.size,fun i H v H'=>H'=H/\∃c,x.cps[i]?=some c/\v=.str (kW c),fun i _=>x.cps.size<=i⟩
theorem CI {P:i8}{w:t9}{K:j7}{tg:Expr} (x:Str) (t:Tok) (it:Addr) (ty:String) (hty:ty="str_ascii_iterator" ∨ ty="str_iterator"):nE P w K tg (Pu x) [it] it (fun i h=>h.IsStrIter it ty x t i) where
 mem:=by simp
 obj:=fun i h st b hb=>by
  have e:b=it:=by simpa using hb
  subst e
  obtain⟨o,e,c,d⟩:=st
  exact⟨o,e,fun v z=>by rw[d] at z;cases z⟩
 keep:=fun i h h' st k=>let ⟨o,e,c⟩:=st;⟨o,k it (by simp) o e,c⟩
 item:=by
  intro X hP hw hK hc i pins s σ H E I hf st hg
  subst hP hw hK
  have hg:i<x.cps.size:=hg
  obtain⟨f0,f1,f2,f3,f4,f5⟩:=hf it (by simp)
  have fin:∀h',h'.IsStrIter it ty x t (i+1)->E7 it s.heap h'->∃u,some (aV ⟨#[x.cps[i]]⟩ s.toks)=some u/\j6 (r0 X.prog X.w) X.A (aL tg (.ref it) u) (fun _ s2=>∃v H',C0 X pins σ H' s2/\G9 v u/\(Pu x).yld i H v H'/\s2.heap.IsStrIter it ty x t (i+1)/\∀b∈[it],H' b=none) E { s with heap:=h',toks:=s.toks+1 }:=fun h' st' sb=>by
   have I1:C0 X pins σ H { s with heap:=h',toks:=s.toks+1 }:=I.turned (t':=s.toks+1) (fun b o hb e=>(sb.2 b hb).trans e) f0 f1 f3 f4 f5
   obtain⟨o,e,c,d⟩:=id st'
   refine⟨_,rfl,zQ (s:={ s with heap:=h',toks:=s.toks+1 }) e c d ?_ ⟨.str (kW x.cps[i]),H,I1,⟨_,rfl⟩,⟨rfl,_,by simp[hg],rfl⟩,st',fun b hb=>(hf b hb).1⟩⟩
   rcases hty with e|e <;> rw[e] <;> decide
  rcases hty with e|e
  ·subst e;exact wpAny_pyNext_ascii_item st (c:=x.cps[i]) (by simp[hg]) fin
  ·subst e;exact wpAny_pyNext_wide_item st (c:=x.cps[i]) (by simp[hg]) fin
 done:=by
  intro X hP hw hK hc i pins s σ H E I hf st hg
  subst hP hw hK
  have hg:x.cps.size<=i:=hg
  obtain⟨f0,f1,f2,f3,f4,f5⟩:=hf it (by simp)
  rcases hty with e|e
  ·subst e;exact wpAny_pyNext_ascii_end (I.ok.hd hc) st (by simp[hg]) fun h' eb=>⟨rfl,I.turned (t':=s.toks) (fun b o hb e=>eb b o hb e) f0 f1 f3 f4 f5⟩
  ·subst e;exact wpAny_pyNext_wide_end (I.ok.hd hc) st (by simp[hg]) fun h' eb=>⟨rfl,I.turned (t':=s.toks) (fun b o hb e=>eb b o hb e) f0 f1 f3 f4 f5⟩
 self:=fun A i s Q E st q=>by
  rcases hty with e|e
  ·subst e;exact wpAny_pyIter_striter_ascii st q
  ·subst e;exact wpAny_pyIter_striter_wide st q
section
variable {X:Cx}
def iStr (tl:TE):TI:=fun σ H R=>tl σ H fun v H1=>∃x,v=.str x/\R (Pu x) H1
theorem Lf {tg l:Expr}{tl:TE} (hl:PE X l tl):PI X tg l (iStr tl):=by
 intro pins s σ H R I h
 refine P1 (hl pins s σ H _ I h) fun v s1 ⟨u,H1,I1,r1,x,e,q⟩=>?_
 subst e
 obtain⟨t,rfl⟩:=r1
 have fin:∀(ty:String) (hty:ty="str_ascii_iterator" ∨ ty="str_iterator"),OP X pins σ tg R (.ref s1.heap.objs.size) { s1 with heap:=s1.heap.push { cls:=.type ty,data:=.fields #[.str x t,.int 0 0] } }:=fun ty hty=>by
  have I2:C0 X pins σ H1 { s1 with heap:=s1.heap.push { cls:=.type ty,data:=.fields #[.str x t,.int 0 0] } }:=I1.kept (t':=s1.toks) fun b o e=>d9 _ e
  refine⟨s1.heap.objs.size,[s1.heap.objs.size],_,_,H1,rfl,I2,CI x t s1.heap.objs.size ty hty,⟨_,j8 _ rfl,rfl,rfl⟩,fun b hb=>?_,q⟩
  rw[List.mem_singleton.mp hb]
  exact I1.fpOk (i9 _) (I1.hok.fresh (i9 _))
 cases ha:x.cps.all (·<128)
 ·exact wpAny_pyIter_wide ha (fin _ (.inr rfl))
 ·exact wpAny_pyIter_ascii ha (fin _ (.inl rfl))
theorem IK {x:Str}{σ0:St}{te:TE}{H:Hp}{F:List V->Hp->Prop} (hn:x.cps.size<=i7) (Pv:Nat->List V->Hp->Prop) (h0:Pv 0 [] H) (hl:∀i ys H,Pv i ys H->ys.length=i) (hσ:σ0[0]?=some none)
  (hs:∀i c ys H,x.cps[i]?=some c->Pv i ys H->te (σ0.set 0 (some (.str (kW c)))) H fun y H'=>Pv (i+1) (ys++[y]) H') (hd:∀ys H,Pv x.cps.size ys H->F ys H):BN (Pu x) σ0 (R7 0) T5 te H F:=by
 refine⟨fun i m ys H=>m=x.cps.size - i/\i<=x.cps.size/\Pv i ys H,⟨x.cps.size,by simp,A7 _,h0⟩,?_⟩
 rintro i m ys H2 ⟨rfl,hi,p⟩
 refine⟨by rw[hl i ys H2 p];lia,?_⟩
 by_cases hlt:i<x.cps.size
 ·refine .inr ⟨hlt,fun y H'=>Pv (i+1) (ys++[y]) H',fun _=>False,fun y H' q=>⟨x.cps.size - (i+1),by lia,rfl,hlt,q⟩,fun _ q=>q.elim,fun v H3 y=>?_⟩
  obtain⟨rfl,c,hc,rfl⟩:=y
  exact⟨Wk.set (.inl hσ),hs i c ys _ hc p⟩
 ·have e:i=x.cps.size:=by lia
  subst e
  exact .inl ⟨i9 _,hd ys H2 p⟩
theorem rq:jE X (M4 .LtE) (fun x y H Q=>∃i j,x=.str i/\y=.str j/\Q (.bl (!decide (j.cps.toList<i.cps.toList))) H):=by
 intro pins s σ H x y v u Q I rx ry h
 obtain⟨i,j,rfl,rfl,q⟩:=h
 obtain⟨t,rfl⟩:=rx
 obtain⟨t',rfl⟩:=ry
 exact PySem.P.le_str (N4 I q rfl)
theorem xY:jE X (M4 .NotIn) (fun x y H Q=>∃i j,x=.str i/\y=.str j/\Q (.bl (C7 j i 0 j.length 1).isEmpty) H):=by
 intro pins s σ H x y v u Q I rx ry h
 obtain⟨i,j,rfl,rfl,q⟩:=h
 obtain⟨t,rfl⟩:=rx
 obtain⟨t',rfl⟩:=ry
 exact PyProof.Rows.notIn_str (N4 I q (by simp))
end
theorem vb {prog:i8}{w:t9}{A:y7}{I:Addr}{fp wr:List Addr}{n:Nat}{P:Nat->b9->Prop}{St:Nat->Heap->Prop} (W:Walks prog w A I fp wr (n+1) P St):Walks prog w A I fp wr n (fun i=>P (i+1)) (fun i=>St (i+1)) where
 sub:=W.sub
 frame:=fun i h h' st k=>W.frame (i+1) h h' st k
 item:=fun i s Q E hi st hQ=>W.item (i+1) s Q E (by lia) st hQ
 done:=fun s Q E st hQ=>W.done s Q E st hQ
 self:=fun i s Q E st hQ=>W.self (i+1) s Q E st hQ
section
variable {prog:i8}{w:t9}{A:y7}{E:b9->f6->Prop}{s:f6}
theorem lI {t:Addr}{x:b9}{its:List b9}{Q:List b9->f6->Prop} (hh:A.handled=none) (ht:s.heap.IsList t (x::its).toArray) (hz:(x::its).length<=i7)
  (hQ:∀(h':Heap) (tk:Nat),(∀b o,s.heap.get? b=some o->h'.get? b=some o)->Q [x,.ref h'.objs.size] { s with heap:=h'.push { cls:=.type "list",data:=.seq its.toArray },toks:=tk }):j6 (r0 prog w) A (JJ (.ref t) 2 (some 1)) Q E s:=by
 have hlt:t≠s.heap.objs.size:=by obtain⟨o,ho,_⟩:=ht;exact m9 (i5 ho)
 unfold JJ
 refine b7 ?_
 unfold notIterableAtAll
 refine b7 (wpAny_specialOf ht.typeIs PySem.F.slot_list_iter.lookup ?_)
 refine g0 ?_
 simp only[R9,if_false]
 refine b7 (F0 (jf ht ?_))
 refine b7 (F0 (rL hlt 1 0 _ _ ⟨_,j8 _ rfl,rfl,rfl⟩ (ht.push _) (by simp) fun h₁ hit₁ hs₁=>?_))
 have ht₁:h₁.IsList t (x::its).toArray:=(ht.push _).at fun o e=>hs₁.extBut _ _ hlt e
 have e1:List.take 1 (List.drop 0 (x::its).toArray.toList)=[x]:=by simp
 rw[e1]
 rw[if_neg (by simp)]
 have W:=vb (n:=its.length) (by
  have:=PF (prog:=prog) (w:=w) (A:=A.in1) hh s.heap.objs.size t hlt (x::its).toArray
  rw[show (x::its).toArray.size=its.length+1 by simp] at this
  exact this)
 have lit:s.heap.objs.size<h₁.objs.size:=by obtain⟨o,ho,_⟩:=hit₁;exact i5 ho
 refine b7 (F0 (wpAny_collect_iter (T:="list_iterator") (.inr (.inr (.inl rfl))) W.toS (fun i s' st=>?_) ⟨hit₁,ht₁⟩ (fun b hb=>?_) (by simp) (fun s' acc hm hi=>?_) (by rw[m8] at hz;lia)))
 ·obtain⟨⟨o,ho,hc,_⟩,_⟩:=st
  exact⟨o,ho,hc⟩
 ·rcases List.mem_cons.mp hb with e|e
  ·rw[e];exact lit
  ·rw[List.mem_singleton.mp e];obtain⟨o,ho,_⟩:=ht₁;exact i5 ho
 have ea:acc.toList=its:=by
  refine cL fun j=>?_
  by_cases hj:j<its.length
  ·have h1:j<acc.size:=by rw[hi.1];exact hj
   have:=hi.2 j acc[j] (by simp[h1])
   have e2:(x::its).toArray[j+1]?=some acc[j]:=this
   rw[List.getElem?_toArray,List.getElem?_cons_succ] at e2
   rw[e2,O8];simp[h1]
  ·rw[V9 (by rw[B8,hi.1];lia),V9 (by lia)]
 rw[ea,if_neg (by simp)]
 refine b7 (qj ?_ (by rw[m8] at hz;simp;lia))
 have et:List.take (its.length - (2 - 1 - 1)) its=its:=J4 (by simp)
 rw[et]
 refine g0 ?_
 have ed:[x]++[n9 s'.heap.objs.size]++List.drop (its.length - (2 - 1 - 1)) its=[x,.ref s'.heap.objs.size]:=by simp
 rw[ed]
 have k1:∀b o,s.heap.get? b=some o->s'.heap.get? b=some o:=fun b o e=>hm.heap b o (fun z=>by rw[List.mem_singleton.mp z] at e;exact Q3 _ (i5 e)) (hs₁.extBut b o (m9 (i5 e)) (d9 _ e))
 obtain⟨h2,g2,d2,t2,os2⟩:=s'
 obtain⟨_,m1,m2,m3,_⟩:=hm
 cases m1
 cases m2
 cases m3
 exact hQ h2 t2 k1
end
section
variable {X:Cx}{pos:Pos}
def OL (K:j7) (g1 g2:TG):TG:=fun v σ H Q=>∃a x xs,v=.ref a/\fM K H a (x::xs)/\∀p,H p=none->g1 x σ (A6 H p (.lst xs)) fun σ1 H1=>g2 (.ref p) σ1 H1 Q
theorem HC {t1 t2:Expr}{p1:Pos}{k:Nat}{g1 g2:TG} (hc:X.calm=true) (h1:PG X t1 g1) (h2:PG X t2 g2) (hn:cS [t1,.Starred t2 p1] X.env=[(false,dI t1 X.env),(true,dI t2 X.env)]:=by rfl):PG X (.Tuple [t1,.Starred t2 p1] k pos) (OL X.K g1 g2):=by
 intro pins s σ H v u Q I r hw
 obtain⟨a,x,xs,e1,hq,hw⟩:=hw
 subst e1
 cases r
 obtain⟨its,rv,pl,hz⟩:=I.list hq
 cases rv with
 | @cons _ u1 _ its r1 rr =>
  rw[arm_assign_Tuple]
  refine b7 (aO ?_)
  unfold unpack
  rw[hn]
  refine b7 (F0 (lI (I.ok.hd hc) pl.isList (by have h1:=rr.length;have h2:=hz;simp only[m8] at h2 ⊢;lia) fun h' tk kp=>?_))
  have I1:C0 X pins σ H { s with heap:=h',toks:=tk }:=I.kept (t':=tk) kp
  have hp:=I1.hok.fresh (i9 h'.objs.size)
  have I2:C0 X pins σ (A6 H h'.objs.size (.lst xs)) { s with heap:=h'.push { cls:=.type "list",data:=.seq its.toArray },toks:=tk }:=I1.laid (a:=h'.objs.size) (o:=.lst xs) (t':=tk) (fun _ _ q=>d9 _ q) (i9 _) ⟨by have h1:=rr.length;have h2:=hz;simp only[m8] at h2 ⊢;lia,its,0,rr,j8 _ rfl⟩
  show j6 _ _ (kF [n9 h'.objs.size] (dI t1 X.env u1) >>= fun _=>jv [dI t2 X.env] [n9 h'.objs.size]) _ _ _
  refine b7 (F0 (P1 (h1 pins _ σ _ x u1 _ I2 r1 (hw _ hp)) fun _ s2 ⟨σ2,H2,I3,q2⟩=>?_))
  show j6 _ _ (kF [] (dI t2 X.env (.ref h'.objs.size)) >>= fun _=>jv [] []) _ _ _
  refine b7 (F0 (P1 (h2 pins _ σ2 H2 (.ref h'.objs.size) (.ref h'.objs.size) _ I3 rfl q2) fun _ s3 h3=>g0 h3))
end
section
variable {X:Cx}
theorem Bc:MY X "str.index" (fun x vs H Q=>∃(a b:Str) (i:Nat) (V3:List Nat),x=.str a/\vs=[.str b]/\C7 a b 0 a.length 1=i::V3/\Q (.int i) H):=by
 intro pins s σ H x vs v us Q I rx rv h
 obtain⟨a,b,i,V3,rfl,rfl,ho,q⟩:=h
 obtain⟨t,rfl⟩:=rx
 obtain⟨u,rfl,ru⟩:=rv.one
 obtain⟨t2,rfl⟩:=ru
 exact call_gives uR (iq s _ _) PySem.F.entry_str_index (PySem.F.args_str_index_2 _ _) (gives_str_index a b t t2 i V3 ho) ⟨.int i,H,I.tok _,⟨_,rfl⟩,q⟩
end
structure FS (K:j7) (w:t9) (dl:Addr) (f:Str->Option b9):Prop where
 sys:(dl == P7)=false
 ex:∃es n,K.lookup dl=some ⟨.type "dict",none,.dict es n,#[]⟩/\Nk w.params es.toList/\∀x,qw S0 es x=f x
section
variable {X:Cx}{dl:Addr}{f:Str->Option b9}
theorem FS.map (T:FS X.K X.w dl f) {pins:List (Addr × Obj)}{σ:St}{H:Hp}{s:f6} (I:C0 X pins σ H s):s.heap.MapOf (strKind X.prog X.w) dl f:=by
 obtain⟨es,n,h1,h2,h3⟩:=T.ex
 have:=W.mapOf_K (prog:=X.prog) (w:=X.w) I.kIn h1 h2
 have e:(fun k=>qw S0 es k)=f:=funext h3
 rw[e] at this
 exact this
def GN (dl:Addr) (f:Str->Option b9) (td ty:TE):TE:=fun σ H Q=>td σ H fun x H1=>ty σ H1 fun y H2=>∃k v u,x=.ref dl/\y=.str k/\f k=some u/\G9 v u/\Q v H2
theorem rp {o i:Expr}{td ty:TE}{pos:Pos} (T:FS X.K X.w dl f) (ho:PE X o td) (hi:PE X i ty) (hs:Mx i):PE X (.Subscript o i pos) (GN dl f td ty):=by
 intro pins s σ H Q I h
 refine za PySem.F.slot_dict_getitem.lookup hs (P1 (ho pins s σ H _ I h) fun u s1 ⟨x,H1,I1,rx,q1⟩=>P1 (hi pins s1 σ H1 _ I1 q1) fun iv s2 ⟨y,H2,I2,ry,k,v,w',ex,ey,ef,rv,q2⟩=>?_)
 subst ex ey
 cases rx
 obtain⟨t,rfl⟩:=ry
 exact⟨(T.map I2).typeIs,Pz (strKind_is X.prog X.w k t) (T.map I2) ef ⟨v,H2,I2.tok _,rv,q2⟩⟩
theorem AV (T:FS X.K X.w dl f):jE X (M4 .NotIn) (fun x y H Q=>∃k,x=.str k/\y=.ref dl/\Q (.bl (f k).isNone) H):=by
 intro pins s σ H x y v u Q I rx ry h
 obtain⟨k,rfl,rfl,q⟩:=h
 obtain⟨t,rfl⟩:=rx
 cases ry
 refine wpAny_notIn_of (strKind_is X.prog X.w k t) T.sys (T.map I) ⟨.bl (f k).isNone,H,I.tok _,?_,q⟩
 cases f k <;> rfl
end
end L2
namespace G
open PySem PySem.Spec PyProof.Rows L2 Mt
theorem mT {i:Int} (h0:0<=i) (h:i<10 ^ 574):i.natAbs.log2<1920:=by
 rcases nj i.natAbs with e|e
 ·rw[e];decide
 ·have h1:i.natAbs<10 ^ 574:=by
   have:((i.natAbs:Nat):Int)<((10 ^ 574:Nat):Int):=by rw[Cv h0];exact h
   exact Int.ofNat_lt.mp this
  exact y9 ((ez (by lia)).mpr (y9 h1 (show 10 ^ 574<=2 ^ 1910 by decide))) (by decide)
theorem lK {i:Int} (h0:0<=i) (h:i<10 ^ 574):(tx i).length<=574:=by
 obtain⟨n,rfl⟩:=cn h0
 have h1:n<10 ^ 574:=by
  have:(n:Int)<((10 ^ 574:Nat):Int):=h
  exact Int.ofNat_lt.mp this
 have e:(tx (n:Int)).length=(Nat.repr n).length:=PySem.ofString_length _
 rw[e]
 exact(Nat.length_repr_le_iff (by decide)).mpr h1
section
variable {X:Cx}{es:List Expr}{n:Nat}{t:TJx}
theorem vp {e:Expr}{te:TE}{pos:Pos} (he:PE X e te) (h:MX X es (n+1000) t) (hz:n+1000<=i7:=by decide):
  MX X (.FormattedValue e (-1) none pos::es) n (fun σ H Q=>te σ H fun v H1=>∃i:Int,v=.int i/\i.natAbs.log2<1920/\(M5 (toString i)).length<=1000/\t σ H1 fun z H2=>Q (M5 (toString i)++z) H2):=by
 intro acc ha pins s σ H Q I q
 show j6 _ _ (nJ acc (eval (.FormattedValue e (-1) none pos) X.env::sd es X.env)) _ _ _
 refine ng (JQ (P1 (he pins s σ H _ I q) fun u s1 ⟨v,H1,I1,r,i,ev,hl,hz',q1⟩=>?_))
 subst ev
 obtain⟨tk,rfl⟩:=r
 refine IY hl ⟨?_,?_⟩
 ·rw[B4]
  have:(toString i:Str).length<=1000:=hz'
  lia
 ·exact P1 (h _ (by
   rw[B4]
   have:(toString i:Str).length<=1000:=hz'
   lia) pins _ σ H1 _ (I1.tok _) q1) fun u s1 ⟨z,H1,I1,r,q1⟩=>⟨_,H1,I1,by rw[<- fV];exact r,q1⟩
end
section
variable {P:i8}{w:t9}{K:j7}{mg:Str->Option b9}{base:Heap}{f:Addr}{fd:A9}{ec:Nat->Addr}{Bs:Addr}
def jQ:Sp:=fun vs H Q _=>∃(a:Addr) (t b:Int),vs=[.ref a]/\H a=some (.tup [.int t,.int b])/\0<=t/\t<10 ^ 574/\0<=b/\b<10 ^ 574/\∀H',n8 H H'->Q (.str (fT t b)) H'
theorem LA (F:Y3 K "fraction_text" "fraction_text" KO f fd) (B2:Gv mg):G7 P w K mg base cQ 1 f fd ["fraction"] jQ:=by
 refine F.ok Dk (fun vs H Q E h=>?_) (fun cdv A outer s H vs Q E hr h=>?_)
 ·obtain⟨a,t,b,rfl,_⟩:=h
  rfl
 obtain⟨a,t,b,rfl,ha,t0,t4,b0,b4,q⟩:=h
 refine⟨_,(@j5 _ _ _ _ _ (iT (pv 0) (jW rfl (L9 (R4 (i:=1) Dk.nd rfl (A4 rfl)) (L9 (R4 (i:=2) Dk.nd rfl (A4 rfl)) bQ))))
  (@n6 _ _ _ (A5 (oZ (@E4 _ _ _ _ _ _ _ _ Z0 (pv 2) t8 (G0 _)) (D9 N5 rfl B2.str aM (@b8 _ _ _ _ _ (pv 1) f7 (by rfl))) (Eg (vp (pv 1) (HA (vp (pv 2) HB)))))))),?_⟩
 refine⟨_,rfl,a,_,rfl,.of ha,rfl,_,_,rfl,_,_,rfl,rfl,?_⟩
 refine⟨_,rfl,rfl,_,rfl,?_⟩
 have hlt:=lK t0 t4
 have hlb:=lK b0 b4
 by_cases e:b=1
 ·have ef:fT t b=tx t:=if_pos e
  rw[decide_eq_true (congrArg V.int e)]
  refine O2 ⟨_,rfl,t,rfl,mT t0 t4,?_⟩
  have:=q _ (n8.refl H)
  rw[ef] at this
  exact this
 ·have ef:fT t b=tx t++("/"++tx b):=if_neg e
  rw[decide_eq_false (fun z=>e (V.int.inj z))]
  refine N3 ⟨_,rfl,t,rfl,mT t0 t4,j9 hlt (by decide),_,rfl,b,rfl,mT b0 b4,j9 hlb (by decide),?_⟩
  have:=q _ (n8.refl H)
  rw[ef,<- zd (tx b)] at this
  exact this
end
end G
namespace L2
open PySem PySem.Spec PyProof.Rows
structure uA (P:i8) (w:t9) (K:j7) (mg:Str->Option b9) (base:Heap) (C:Addr) (k:Nat) (m:Str) (ps:List Str) (sp:Sp):Prop where
 ex:∃f fd,IT K C m f/\bc K fd ps []/\G7 P w K mg base cQ k f fd ps sp
variable {C:Addr}
theorem uA.up {P:i8}{w:t9}{K:j7}{mg:Str->Option b9}{base:Heap}{j k:Nat}{m:Str}{ps:List Str}{sp:Sp} (c:uA P w K mg base C j m ps sp) (h:j<=k):uA P w K mg base C k m ps sp :=
 let ⟨f,fd,a,b,d⟩:=c.ex;⟨f,fd,a,b,d.mono h⟩
structure BM (P:i8) (w:t9) (K:j7) (mg:Str->Option b9) (base:Heap) (C:Addr) (k:Nat) (x:Str) (ps:List Str) (sp:Sp):Prop where
 ex:∃f fd,Mk K C f/\mg x=some (.ref C)/\bc K fd ps []/\G7 P w K mg base cQ k f fd ps sp
theorem BM.up {P:i8}{w:t9}{K:j7}{mg:Str->Option b9}{base:Heap}{j k:Nat}{x:Str}{ps:List Str}{sp:Sp} (c:BM P w K mg base C j x ps sp) (h:j<=k):BM P w K mg base C k x ps sp :=
 let ⟨f,fd,a,e,b,d⟩:=c.ex;⟨f,fd,a,e,b,d.mono h⟩
def tMb (C:Addr) (m:Str) (sp:Sp) (ta:TE) (t:TA):TE:=fun σ H Q=>ta σ H fun x H1=>∃a dx fs,x=.ref a/\H1 a=some (.ins C dx fs)/\fs.lookup m=none /\
 t σ H1 fun vs H2=>sp (x::vs) H2 Q E0
def tMk0 (C:Addr) (sp:Sp):TE:=fun σ H Q=>∀x dx,H x=none->H dx=none->dx≠x ->
 sp [.ref x] (A6 (A6 H dx (.own x)) x (.ins C dx [])) (fun v H2=>v=.non/\Q (.ref x) H2) E0
section
variable {X:Cx}{k:Nat}{C:Addr}{ps:List Str}{sp:Sp}{x m:Str}{p pos apos:Pos}{e o:Expr}{es:List Expr}{ta:TE}{t:TA}
theorem zE {pl:Sem Bool} (he:PE X o ta) (c:Cd X.K C) (M:uA X.prog X.w X.K X.mg X.base C k m ps sp) (hr:Y9 k X.A) (ha:PA X (e::es) t)
  (hst:A2 (e::es) X.env=(false,eval e X.env)::A2 es X.env:=by rfl) (hpl:(V2 pos (A2 es X.env)).any (·.1)=false:=by rfl)
  (ht:eval (.Call (.Attribute o m apos) (e::es) [] pos) X.env=(do
   let ov <- eval o X.env
   Gy apos.atName
   let (f,first) <- kF [ov] (uQ ov m pl)
   callWith pos f first (V2 pos (A2 (e::es) X.env)) (sj pos (jg [] X.env))):=by rfl):
  PE X (.Call (.Attribute o m apos) (e::es) [] pos) (tMb C m sp ta t):=by
 obtain⟨f,fd,hm,hb,F⟩:=M.ex
 have h:=zC (pl:=pl) he c hm F hr hb .nil Er ha hst hpl ht
 have e:ve C m sp [] E0 ta t=tMb C m sp ta t:=by
  funext σ H Q
  unfold ve tMb
  simp only[S8]
 rw[<- e];exact h
theorem Ed (M:BM X.prog X.w X.K X.mg X.base C k x ps sp) (hr:Y9 (k+1) X.A) (hg:Gl X x) (hdb:(x == ("__debug__":Str))=false:=by decide):PE X (.Call (.Name x p) [] [] pos) (tMk0 C sp):=by
 obtain⟨f,fd,mk,hm,hb,F⟩:=M.ex
 exact Ee mk F hr hg hm hb .nil Er hdb
end
section
variable {X:Cx}
theorem Be:MY X "str.count" (fun x vs H Q=>∃(a b:Str),x=.str a/\vs=[.str b]/\Q (.int ((C7 a b 0 a.length (a.length+1)).length:Nat)) H):=by
 intro pins s σ H x vs v us Q I rx rv h
 obtain⟨a,b,rfl,rfl,q⟩:=h
 obtain⟨t,rfl⟩:=rx
 obtain⟨u,rfl,ru⟩:=rv.one
 obtain⟨t2,rfl⟩:=ru
 exact call_gives uS (iq s _ _) PySem.F.entry_str_count (PySem.F.args_str_count_2 _ _) (gives_str_count a b t t2) ⟨.int _,H,I.tok _,⟨_,rfl⟩,q⟩
end
theorem vU {x y:Str} (h1:y.length<=x.length) (h2:S4 y<=S4 x):(A8 x y).length=(C7 x y 0 x.length (x.length+1)).length+1:=by
 unfold A8
 rw[if_neg (by simp only[Bool.or_eq_true,decide_eq_true_eq];lia)]
 split
 ·next h =>
  rw[List.isEmpty_iff] at h
  rw[h];rfl
 ·rw[PySem.length_partsBetween]
theorem Fi (x:Str):1<=S4 x:=by
 unfold S4
 split
 ·exact i9 _
 ·split <;> decide
def Gs (h:Heap) (a C T:Addr) (v:b9):Prop:=∃oe vs oT ts,h.get? a=some oe/\oe.cls=.ref C/\oe.dict=none/\oe.data=.fields vs/\vs[1]?=some (.ref T)/\T≠a/\h.get? T=some oT/\oT.data=.fields ts/\ts[3]?=some v
structure rW (fs:List Addr) (S:Addr->Prop) (h h':Heap):Prop where
 keep:∀b o,¬ S b->b ∉ fs->h.get? b=some o->h'.get? b=some o
 slot:∀b o,¬ S b->h.get? b=some o->∃sl,h'.get? b=some { o with slots:=sl }
variable {S:Addr->Prop}
theorem rW.trans {fs:List Addr}{h1 h2 h3:Heap} (a:rW fs S h1 h2) (b:rW fs S h2 h3):rW fs S h1 h3 :=
 ⟨fun c o n m e=>b.keep c o n m (a.keep c o n m e),fun c o n e=>by
  obtain⟨sl,e1⟩:=a.slot c o n e
  obtain⟨sl2,e2⟩:=b.slot c _ n e1
  exact⟨sl2,e2⟩⟩
variable {h h':Heap}
theorem rW.of {fs:List Addr}(k:∀b o,¬ S b->h.get? b=some o->h'.get? b=some o):rW fs S h h':=⟨fun b o n _ e=>k b o n e,fun b o n e=>⟨o.slots,k b o n e⟩⟩
section
variable {M:lB}{A:y7}{E:b9->f6->Prop}{s:f6}{bs:Heap}{ev:Env}{out:List Env}{L a C:Addr}{S:Addr->Prop}
variable {Q:Unit->f6->Prop}
theorem Iy {ob:Obj}{us:Array b9}{hdv:b9}{hn:Bool}
  (fr:A.frames=some (ev::out)) (ff:s.heap.FunFrames bs (ev::out)) (fl:ev.frame=some L) (ga:s.heap.get? a=some ob) (gc:ob.cls=.ref C) (gd:ob.dict=none) (gf:ob.data=.fields us) (sz:1<us.size) (sa:S a)
  (k:∀h' T,Gs h' a C T (P0 L)->s.heap.objs.size<=T->rW (dz (ev::out)) S s.heap h'->Q () { s with heap:=h' }):
  j6 M A (do let x <- frameOf ev;let pl <- entryPlaceOf L hn;let b <- dn hdv x .none (P0 L) .none pl;jJ (.ref a) 1 b) Q E s:=by
 have na:a ∉ (ev::out).filterMap (·.frame):=fun hm=>by
  obtain⟨_,o,ho,hnf⟩:=ff.mem hm
  rw[ga] at ho
  cases ho
  exact hnf us gf
 refine b7 (Pb fr ff fl fun g1 hs=>?_)
 refine b7 (Nd fun pl hpl=>?_)
 unfold dn newFields
 refine b7 (E6 ?_ (hpl.sizeOk5 _ _ _ _ _))
 have ga1:g1.get? a=some ob:=(hs.2.1 a na).trans ga
 generalize hnew:({ cls:=.type "traceback",dict:=none,data:=.fields ([hdv,.ref L,.none,P0 L,.none]++(if pl.isEmpty then aP 6 A3 else pl)).toArray }:Obj)=ot
 have ga2:(g1.push ot).get? a=some ob:=d9 (h:=g1) ot ga1
 have gt2:(g1.push ot).get? g1.objs.size=some ot:=j8 g1 (by rw[<- hnew];rfl)
 have otd:∃ts,ot.data=.fields ts/\ts[3]?=some (P0 L):=⟨_,by rw[<- hnew],by simp⟩
 obtain⟨ts,otd,t3⟩:=otd
 refine T7 ga2 gf sz ?_
 have neT:g1.objs.size≠a:=B7 (i5 ga1)
 have d3:=N7 gf (·.setIfInBounds 1 (n9 g1.objs.size))
 have ga3:=J8 (K2 (·.setIfInBounds 1 (n9 g1.objs.size))) ga2 (X1 d3)
 have gt3:((g1.push ot).update a (K2 (·.setIfInBounds 1 (n9 g1.objs.size)))).get? g1.objs.size=some ot :=
  (C6 (g1.push ot) (K2 (·.setIfInBounds 1 (n9 g1.objs.size))) (E8 neT)).trans gt2
 have kp:∀b o,b≠a->g1.get? b=some o->((g1.push ot).update a (K2 (·.setIfInBounds 1 (n9 g1.objs.size)))).get? b=some o:=by
  intro b o hb e
  rw[C6 _ _ (E8 hb)]
  exact d9 _ e
 refine k _ g1.objs.size ⟨_,_,_,_,ga3,?_,?_,d3,by simp[sz],neT,gt3,otd,t3⟩ (by rw[hs.1];exact i9 _) ⟨fun b o hb hf e=>?_,fun b o hb e=>?_⟩
 ·rw[oh]
  exact gc
 ·rw[jd]
  exact gd
 ·exact kp b o (fun z=>hb (z ▸ sa)) ((hs.2.1 b hf).trans e)
 ·obtain⟨sl,e1⟩:=hs.2.2 b o e
  exact⟨sl,kp b _ (fun z=>hb (z ▸ sa)) e1⟩
variable {v:b9}
theorem EG {T0:Addr}(fr:A.frames=some (ev::out)) (ff:s.heap.FunFrames bs (ev::out)) (fl:ev.frame=some L) (x:Gs s.heap a C T0 v) (hv:(v == P0 L)=false) (sa:S a) (sT:S T0)
  (k:∀h' T,Gs h' a C T (P0 L)->s.heap.objs.size<=T->rW (dz (ev::out)) S s.heap h'->Q () { s with heap:=h' }):
  j6 M A (dh (.ref a) ev) Q E s:=by
 unfold dh
 simp only[fl]
 obtain⟨oe,vs,oT,ts,e1,e2,e3,e4,e5,ne,t1,t2,t3⟩:=x
 refine b7 (C4 e1 e4 e5 ?_)
 rw[if_pos (show (n9 T0 != A3)=true from by simp)]
 refine b7 (C4 t1 t2 t3 ?_)
 rw[if_neg (show ¬ ((v == P0 L)=true) from by rw[hv];decide)]
 refine b7 (T7 t1 t2 (Array.getElem?_eq_some_iff.mp t3).1 ?_)
 have ot:∀b,b≠T0->(s.heap.update T0 (K2 (·.setIfInBounds 3 A3))).get? b=s.heap.get? b:=fun b hb=>C6 _ _ (E8 hb)
 have nr:∀b o,s.heap.get? b=some o->(∀vs,o.data≠.fields vs)->b≠T0:=fun b o hb hnf q=>by
  rw[q,t1] at hb
  cases hb
  exact hnf ts t2
 refine Iy (S:=S) fr (ff.of_keeps fun b o hb hnf=>⟨o,(ot b (nr b o hb hnf)).trans hb,rfl⟩) fl ((ot a (E8 ne)).trans e1) e2 e3 e4 (Array.getElem?_eq_some_iff.mp e5).1 sa fun h' T q1 q2 q3=>?_
 have q2':s.heap.objs.size<=T:=by
  have z:=jj s.heap T0 (K2 (·.setIfInBounds 3 A3))
  rw[<- z];exact q2
 exact k h' T q1 q2' ((rW.of fun b o hb e=>(ot b fun z=>hb (z ▸ sT)).trans e).trans q3)
theorem pW {T:Addr}{fo:Option Addr}(x:Gs s.heap a C T v) (sT:S T) (fs:List Addr)
  (k:∀h',Gs h' a C T (fo.elim .none fun f=>P0 f)->h'.objs.size=s.heap.objs.size->rW fs S s.heap h'->Q () { s with heap:=h' }):j6 M A (jI (.ref a) fo) Q E s:=by
 obtain⟨oe,vs,oT,ts,e1,e2,e3,e4,e5,ne,t1,t2,t3⟩:=x
 unfold jI
 refine b7 (C4 e1 e4 e5 ?_)
 rw[if_pos (show (n9 T != A3)=true from by simp)]
 refine T7 t1 t2 (Array.getElem?_eq_some_iff.mp t3).1 ?_
 have ot:∀b,b≠T->(s.heap.update T (K2 (·.setIfInBounds 3 (fo.elim A3 fun f=>P0 f)))).get? b=s.heap.get? b:=fun b hb=>C6 _ _ (E8 hb)
 exact k _ ⟨oe,vs,_,_,(ot a (E8 ne)).trans e1,e2,e3,e4,e5,ne,J8 _ t1 (X1 (N7 t2 _)),N7 t2 _,by
   rw[aG (Array.getElem?_eq_some_iff.mp t3).1]⟩ (jj ..) (rW.of fun b o hb e=>(ot b fun z=>hb (z ▸ sT)).trans e)
theorem HY {T0:Addr}(fr:A.frames=some (ev::out)) (ff:s.heap.FunFrames bs (ev::out)) (fl:ev.frame=some L) (x:Gs s.heap a C T0 v) (sa:S a) (sT:S T0) (sN:∀b,s.heap.objs.size<=b->S b)
  (k:∀h' T,Hd h' a C (some T)->S T->rW (dz (ev::out)) S s.heap h'->Q () { s with heap:=h' }):j6 M A (nH ev (.ref a)) Q E s:=by
 unfold nH
 cases hv:v == P0 L with
 | false=>exact b7 (EG fr ff fl x hv sa sT fun h' T q1 q2 q3=>pW (S:=S) q1 (sN T q2) (dz (ev::out)) fun h2 z1 _ z2=>k h2 T z1 (sN T q2) (q3.trans z2))
 | true =>
  refine b7 ?_
  unfold dh
  simp only[fl]
  have x':=x
  obtain⟨oe,vs,oT,ts,e1,e2,e3,e4,e5,ne,t1,t2,t3⟩:=x'
  refine b7 (C4 e1 e4 e5 ?_)
  rw[if_pos (show (n9 T0 != A3)=true from by simp)]
  refine b7 (C4 t1 t2 t3 ?_)
  rw[if_pos hv]
  exact g0 (pW (S:=S) x sT (dz (ev::out)) fun h2 z1 _ z2=>k h2 T0 z1 sT z2)
end
theorem CJ {α:Type}{M:lB}{A:y7}{m:Sem α}{Q1 Q:α->f6->Prop}{E:b9->f6->Prop}{s:f6} (h:j6 M A m Q1 (fun _ _=>False) s) (k:∀a s',Q1 a s'->Q a s'):j6 M A m Q E s:=B5 h k fun _ _ f=>f.elim
section
variable {prog:i8}{w:t9}{A:y7}{R:eW->f6->Prop}{s:f6}
theorem qM {elt target iter:Expr}{ifs:List Expr}{scope:M8}{pos:Pos}{it acc:b9}{env:Env} (I:Nat->f6->Prop)
  (turn:∀n s,I n s->j6 (r0 prog w) A (Y4 it) (fun r s₁=>match r with
   | none=>R (.ok .next) s₁
   | some v=>j6 (r0 prog w) A (aL target it v) (fun _ s₁'=>j6 (r0 prog w) A (dI target env v) (fun _ s₂ =>
     j6 (r0 prog w) A (forIn ifs true fun c r=>if r=true then do let ok <- GC c env (eval c env);pure (bh ok) else pure (bh r)) (fun ok s₃ =>
      if ok=true then j6 (r0 prog w) A (eval elt env) (fun x s₄ =>
       j6 (r0 prog w) A (call (.builtin "list.append") [acc,x]) (fun _ s₅=>∃m,m<n/\I m s₅) (nG (r0 prog w) A env fun e s'=>R (.error e) s') s₄) (nG (r0 prog w) A env fun e s'=>R (.error e) s') s₃
      else ∃m,m<n/\I m s₃) (nG (r0 prog w) A env fun e s'=>R (.error e) s') s₂) (nG (r0 prog w) A env fun e s'=>R (.error e) s') s₁') (nG (r0 prog w) A env fun e s'=>R (.error e) s') s₁) (nG (r0 prog w) A env fun e s'=>R (.error e) s') s)
  (n:Nat) (h:I n s):
  U8 (r0 prog w) A (.compLoop (.ListComp elt [⟨target,iter,ifs,0⟩] scope pos) 0 it acc env) R s:=by
 refine GD rfl I (fun n s hI=>?_) n h
 show j6 _ A ((compTurn (.ListComp elt [⟨target,iter,ifs,0⟩] scope pos) 0 it acc env).onRaise (fun x=>do dh x env;wO x)) _ _ s
 refine JI ?_
 rw[compTurn_list]
 refine b7 (aO (b7 (B5 (turn n s hI) (fun r s₁ h₁=>?_) fun _ _ h'=>h')))
 cases r with
 | none=>exact g0 h₁
 | some v =>
  refine b7 (B5 h₁ (fun _ s₁' h₁'=>?_) fun _ _ h'=>h')
  refine b7 (B5 h₁' (fun _ s₂ h₂=>b7 (B5 h₂ (fun ok s₃ h₃=>?_) fun _ _ h'=>h')) fun _ _ h'=>h')
  cases ok with
  | false=>exact g0 ⟨rfl,h₃⟩
  | true =>
   exact b7 (b7 (B5 h₃ (fun x s₄ h₄=>b7 (B5 h₄ (fun _ s₅ h₅=>g0 (g0 ⟨rfl,h₅⟩)) fun _ _ h'=>h')) fun _ _ h'=>h'))
end
noncomputable def xeC (X:Cx) (C:Addr) (ev:Env):b9->f6->Prop:=nG (r0 X.prog X.w) X.A ev fun x s'=>Ao (r0 X.prog X.w) X.A X.xe none (fun _ _=>False) .none C (.error x) s'
noncomputable def Cx.compE (X:Cx) (scope:M8) (N:List Str) (s:f6) (H:Hp) (ex:List Addr):Cx:={ X.comp scope N s H ex with xe:=xeC X s.heap.objs.size (X.comp scope N s H ex).env }
section
variable {X:Cx}{pins:List (Addr × Obj)}{σ:St}{H H1:Hp}{s s1:f6}{scope:M8}{N:List Str}{ex:List Addr}
theorem C0.toE (I:C0 (X.comp scope N s H ex) pins σ H1 s1):C0 (X.compE scope N s H ex) pins σ H1 s1 :=
 ⟨⟨I.ok.mod,I.ok.kind,I.ok.glob,I.ok.blt,I.ok.above,I.ok.inj,I.ok.has,I.ok.cab,I.ok.hd,I.ok.frames,I.ok.stk,I.ok.exf,I.ok.bs,I.ok.bsz,I.ok.noex,I.ok.exfs,I.ok.funs,I.ok.frf⟩,I.os,I.bare,I.base,I.loc,I.cell,I.free,I.freeC,I.pin,I.hok,I.len⟩
theorem C0.ofE (I:C0 (X.compE scope N s H ex) pins σ H1 s1):C0 (X.comp scope N s H ex) pins σ H1 s1 :=
 ⟨⟨I.ok.mod,I.ok.kind,I.ok.glob,I.ok.blt,I.ok.above,I.ok.inj,I.ok.has,I.ok.cab,I.ok.hd,I.ok.frames,I.ok.stk,I.ok.exf,I.ok.bs,I.ok.bsz,I.ok.noex,I.ok.exfs,I.ok.funs,I.ok.frf⟩,I.os,I.bare,I.base,I.loc,I.cell,I.free,I.freeC,I.pin,I.hok,I.len⟩
end
section
variable {X:Cx}{scope:M8}{N:List Str}{ix:List (Option Nat)}{elt target iter:Expr}{ifs:List Expr}{pos:Pos}{wi:TI}{g:TG}{te:TE}{tc:TT}
theorem Bz {pins:List (Addr × Obj)}{σ:St}{H:Hp}{s:f6}{it:Addr}{fp:List Addr}{tn:Nat->Heap->Prop}{J:It}{F:List V->Hp->Prop}{E:b9->f6->Prop}{RR:b9->Addr->eW->f6->Prop}
  (hc:X.calm=true) (hk:scope.kind=.function) (hnm:dQ scope=true) (hf:Y1 scope X.env=true) (hx:eZ scope X.N N ix=true)
  (hg:∀s H ex,PG (X.comp scope N s H ex) target g) (ht:∀s H ex,yN (X.comp scope N s H ex) ifs tc) (he:PE (X.compE scope N (M0 s) H (s.heap.objs.size::fp)) elt te) (hxe:∀e s',(X.compE scope N (M0 s) H (s.heap.objs.size::fp)).xe e s'->nG (r0 X.prog X.w) X.A (X.comp scope N (M0 s) H (s.heap.objs.size::fp)).env (fun x s2=>RR (.ref s.heap.objs.size) (M0 s).heap.objs.size (.error x) s2) e s')
  (I:C0 X pins σ H s) (T:nE X.prog X.w X.K target J fp it tn) (st:tn 0 s.heap) (hfp:∀b∈fp,eR X pins H b) (B:BN J (aA ix σ) g tc te H F)
  (fin:∀(ys:List V) (H':Hp) (s':f6) (σ':St) (its:List b9) (n:Nat),C0 (X.comp scope N (M0 s) H (s.heap.objs.size::fp)) [] σ' H' s'->H' s.heap.objs.size=none ->
   s'.heap.get? s.heap.objs.size=some { cls:=.type "list",data:=.seq its.toArray n }->G6 ys its->ys.length<=i7->F ys H'->RR (.ref s.heap.objs.size) (M0 s).heap.objs.size (.ok .next) s'):
  j6 (r0 X.prog X.w) X.A (GA []) (fun acc s₃=>j6 (r0 X.prog X.w) X.A (ir scope X.env.globals (Q6 X.env scope.names []) [] X.env.qual none .none (some X.env)) (fun cenv s₄ =>
   U8 (r0 X.prog X.w) X.A (.compStart (.ListComp elt [⟨target,iter,ifs,0⟩] scope pos) 0 (.ref it) acc { cenv with scope:=kE scope X.env }) (RR acc cenv.locals) s₄) E s₃) E s:=by
 refine E6 (iX ?_) (by show ([]:List b9).toArray.size<=i7;exact A7 _)
 obtain⟨W,⟨m0,w0⟩,turn⟩:=B
 have I1:C0 X pins σ H (M0 s):=I.kept (t':=s.toks) fun b o e=>d9 _ e
 have fpLt:∀b∈fp,b<s.heap.objs.size:=fun b hb=>let ⟨o,e,_⟩:=T.obj 0 _ st b hb;i5 e
 have accE:(M0 s).heap.get? s.heap.objs.size=some { cls:=.type "list",dict:=none,data:=.seq ([]:List b9).toArray }:=j8 _ rfl
 have fD:eR X pins H s.heap.objs.size:=I.fpOk (i9 _) (I.hok.fresh (i9 _))
 have J0:C0 (X.comp scope N (M0 s) H (s.heap.objs.size::fp)) [] (aA ix σ) H _:=I1.comp (N:=N) (ix:=ix) (ex:=s.heap.objs.size::fp) hk hnm hf hx fun b hb=>by
  rcases List.mem_cons.mp hb with z|z
  ·subst z
   exact⟨fD.1,fD.2.1,fD.2.2.1,fD.2.2.2.1,fD.2.2.2.2.1,by rw[Y2];exact J3 _⟩
  ·obtain⟨f0,f1,f2,f3,f4,_⟩:=hfp b z
   exact⟨f0,f1,f2,f3,f4,by rw[Y2];exact K3 (fpLt b z)⟩
 have keep0:∀b o,(M0 s).heap.get? b=some o->(ao ((M0 s).heap.push { cls:=.type "dict",data:=.dict #[] }) scope.names).get? b=some o:=fun b o e=>fP _ _ b o (d9 _ e)
 have st0:tn 0 (ao ((M0 s).heap.push { cls:=.type "dict",data:=.dict #[] }) scope.names):=T.keep 0 _ _ st fun b hb o e=>keep0 b o (d9 _ e)
 have exOk:∀b∈s.heap.objs.size::fp,b≠(X.comp scope N (M0 s) H (s.heap.objs.size::fp)).env.locals/\b ∉ (X.comp scope N (M0 s) H (s.heap.objs.size::fp)).fs /\
   ∀x c,(X.comp scope N (M0 s) H (s.heap.objs.size::fp)).env.cells.lookup x=some c->c≠b:=fun b hb=>⟨(J0.ok.exf b hb).1,J0.ok.exfs b hb,(J0.ok.exf b hb).2⟩
 have stat:∀{H':Hp}{o:Obj},(∀b∈fp,H' b=none)->∀b∈fp,eR (X.comp scope N (M0 s) H (s.heap.objs.size::fp)) [(s.heap.objs.size,o)] H' b:=fun {H' o} hn b hb=>by
  obtain⟨e1,e2,e3⟩:=exOk b (i4 _ hb)
  refine⟨hn b hb,e1,e2,.inl (i4 _ hb),e3,fun p hp=>?_⟩
  have hp':p∈[(s.heap.objs.size,o)]:=(List.mem_append.mp hp).elim (fun z=>absurd (show p∈([]:List (Addr × Obj)) from z) (by simp)) id
  rw[List.mem_singleton.mp hp']
  exact B7 (fpLt b hb)
 have loop:U8 (r0 X.prog X.w) X.A (.compLoop (.ListComp elt [⟨target,iter,ifs,0⟩] scope pos) 0 (.ref it) (.ref s.heap.objs.size) (X.comp scope N (M0 s) H (s.heap.objs.size::fp)).env) (RR (.ref s.heap.objs.size) (M0 s).heap.objs.size)
   { M0 s with heap:=ao ((M0 s).heap.push { cls:=.type "dict",data:=.dict #[] }) scope.names }:=by
  refine qM (fun n s'=>∃i ys its k H',C0 (X.comp scope N (M0 s) H (s.heap.objs.size::fp)) [] (aA ix σ) H' s'/\tn i s'.heap/\(∀b∈fp,H' b=none)/\H' s.heap.objs.size=none /\
   s'.heap.get? s.heap.objs.size=some { cls:=.type "list",data:=.seq (its:List b9).toArray k }/\G6 ys its/\W i n ys H') ?_ m0
   ⟨0,[],[],0,H,J0,st0,fun b hb=>(hfp b hb).1,fD.1,keep0 _ _ accE,.nil,w0⟩
  rintro n s3 ⟨i,ys,its,k,H3,I3,st3,fr3,d3,l3,v3,w3⟩
  obtain⟨hz,hw⟩:=turn i n ys H3 w3
  have pinD:C0 (X.comp scope N (M0 s) H (s.heap.objs.size::fp)) [(s.heap.objs.size,{ cls:=.type "list",data:=.seq its.toArray k })] (aA ix σ) H3 s3:=I3.pins_of fun p hp=>by
   rw[List.mem_singleton.mp hp]
   exact⟨l3,d3,(exOk _ f9).1,(exOk _ f9).2.1,fun v z=>by cases z⟩
  rcases hw with ⟨stop,fy⟩|⟨go,Ny,Nn,hNy,hNn,step⟩
  ·refine CJ (T.done (X.comp scope N (M0 s) H (s.heap.objs.size::fp)) rfl rfl rfl hc i _ s3 (aA ix σ) H3 (fun _ _=>False) pinD (stat fr3) st3 stop) fun r s4 ⟨hr,I4⟩=>?_
   subst hr
   have q:=(I4.pin (s.heap.objs.size,_) (n5 _ f9)).1
   exact fin ys H3 s4 _ its k (I4.pins_of fun p hp=>by cases hp) d3 q v3 hz fy
  ·refine CJ (T.item (X.comp scope N (M0 s) H (s.heap.objs.size::fp)) rfl rfl rfl hc i _ s3 (aA ix σ) H3 (fun _ _=>False) pinD (stat fr3) st3 go) fun r s4 ⟨u,hr,h4⟩=>?_
   subst hr
   refine CJ h4 fun _ s5 ⟨x,H5,I5,r5,y5,st5,fr5⟩=>?_
   have I5':=I5.pinned (stat fr5) (T.obj _ _ st5)
   refine CJ (hg (M0 s) H (s.heap.objs.size::fp) _ s5 (aA ix σ) H5 x u _ I5' r5 (step x H5 y5)) fun _ s6 ⟨σ6,H6,I6,wk6,q6⟩=>?_
   refine CJ (ht (M0 s) H (s.heap.objs.size::fp) _ s6 σ6 H6 _ I6 q6) fun ok s7 ⟨H7,I7,q7⟩=>?_
   cases ok with
   | false =>
    obtain⟨m',hm,w7⟩:=hNn H7 q7
    refine⟨m',hm,i+1,ys,its,k,H7,(I7.weak wk6.1 wk6.2).pins_of (fun p hp=>by cases hp),?_,fun b hb=>?_,?_,?_,v3,w7⟩
    ·exact T.keep _ _ _ st5 fun b hb o e=>(I7.pin (b,o) (n5 _ (n5 _ (S5 hb e)))).1
    ·obtain⟨o,e,d⟩:=T.obj _ _ st5 b hb
     exact(I7.pin (b,o) (n5 _ (n5 _ (S5 hb e)))).2.1
    ·exact(I7.pin (s.heap.objs.size,_) (n5 _ (P5 _ f9))).2.1
    ·exact(I7.pin (s.heap.objs.size,_) (n5 _ (P5 _ f9))).1
   | true =>
    show j6 _ _ _ _ _ _
    refine B5 (he _ s7 σ6 H7 _ I7.toE q7) (fun yv s8 hz8=>?_) hxe
    obtain⟨y,H8,I8e,r8,q8'⟩:=hz8
    have I8:=I8e.ofE
    obtain⟨m',hm,w8⟩:=hNy y H8 q8'
    have q8:=I8.pin (s.heap.objs.size,_) (n5 _ (P5 _ f9))
    refine Gc (l:=s.heap.objs.size) (items:=its.toArray) ⟨k,q8.1⟩ (fun h' hl' sb=>?_) (by rw[A0,<- v3.length];exact hz)
    obtain⟨k',hl'⟩:=hl'
    have I9:C0 (X.comp scope N (M0 s) H (s.heap.objs.size::fp)) [] (aA ix σ) H8 { s8 with heap:=h' }:=((I8.weak wk6.1 wk6.2).pins_of (pins':=[]) (fun p hp=>by cases hp)).turned (t':=s8.toks) (it:=s.heap.objs.size)
     (fun b o hb e=>(sb.2 b hb).trans e) q8.2.1 (exOk _ f9).1 (.inl f9) (exOk _ f9).2.2 (fun p hp=>absurd (show p∈([]:List (Addr × Obj)) from hp) (by simp))
    refine⟨m',hm,i+1,ys++[y],its++[yv],k',H8,I9,?_,fun b hb=>?_,q8.2.1,?_,v3.append (.cons r8 .nil),w8⟩
    ·refine T.keep _ _ _ st5 fun b hb o e=>(sb.2 b (m9 (fpLt b hb))).trans (I8.pin (b,o) (n5 _ (n5 _ (S5 hb e)))).1
    ·obtain⟨o,e,d⟩:=T.obj _ _ st5 b hb
     exact(I8.pin (b,o) (n5 _ (n5 _ (S5 hb e)))).2.1
    ·have e:its.toArray.push yv=(its++[yv]).toArray:=by simp
     rw[<- e];exact hl'
 exact GF loop (T.self _ 0 _ _ _ st0 loop)
theorem El (hc:X.calm=true) (hi:PI X target iter wi) (hg:∀s H ex,PG (X.comp scope N s H ex) target g) (ht:∀s H ex,yN (X.comp scope N s H ex) ifs tc)
  (he:∀pins σ H s fp,C0 X pins σ H s->(∀b∈fp,eR X pins H b)->PE (X.compE scope N (M0 s) H (s.heap.objs.size::fp)) elt te)
  (hk:scope.kind=.function) (hnm:dQ scope=true) (hf:Y1 scope X.env=true) (hx:eZ scope X.N N ix=true) (hs:∀x,dE iter X.env x=pure x):
  PE X (.ListComp elt [⟨target,iter,ifs,0⟩] scope pos) (fun σ H Q=>wi σ H fun J H1=>BN J (aA ix σ) g tc te H1 fun ys H2=>∀p,H2 p=none->Q (.ref p) (A6 H2 p (.lst ys))):=by
 intro pins s σ H Q I h
 rw[eval_ListComp]
 refine cx (use:=none) rfl hs (aZ (I.closed hf)) hk (fun x hx hl=>(da hnm hx).trans (by rw[hl])) ?_
 refine P1 (hi pins s σ H _ I h) fun v s1 h1=>P1 h1 fun itv s2 h2=>?_
 obtain⟨it,fp,tn,J,H2,e,I2,T,st2,f2,B⟩:=h2
 subst e
 refine Bz (RR:=fun acc C=>Ao (r0 X.prog X.w) X.A X.xe none (EP X pins σ Q) acc C) hc hk hnm hf hx hg ht (he _ _ _ _ _ I2 f2) (fun _ _ z=>z) I2 T st2 f2 B ?_
 intro ys H' s' σ' its n J' hD hl hv hz hF
 obtain⟨m,hm,_⟩:=J'.loc
 exact⟨m,hm,fun h' hs'=>⟨.ref s2.heap.objs.size,_,I2.comp_end J' f2 hD hl hv hz hs',rfl,hF _ hD⟩⟩
end
theorem rW.mono {fs:List Addr}{S':Addr->Prop}(d:rW fs S h h') (k:∀b,S b->S' b):rW fs S' h h':=⟨fun b o n=>d.keep b o fun z=>n (k b z),fun b o n=>d.slot b o fun z=>n (k b z)⟩
theorem rW.frames {fs:List Addr}{S:Addr->Prop}{h h' bs:Heap} (d:rW fs S h h'):∀{l:List Env},(∀b∈dz l,¬ S b)->h.FunFrames bs l->h'.FunFrames bs l
 | [],_,_=>trivial
 | env::V3,n,⟨hk,⟨L,o,hf,hn,ho,hd⟩,hr⟩=>by
  have m:∀b∈dz V3,b∈dz (env::V3):=fun b hb=>by
   unfold dz
   rw[U5,hf]
   exact i4 _ hb
  obtain⟨sl,e⟩:=d.slot L o (n L (by unfold dz;rw[U5,hf];exact f9)) ho
  exact⟨hk,⟨L,_,hf,hn,e,hd⟩,d.frames (fun b hb=>n b (m b hb)) hr⟩
theorem Gs.same {a T:Addr}{v:b9} (x:Gs h a C T v) (e1:h'.get? a=h.get? a) (e2:h'.get? T=h.get? T):Gs h' a C T v:=by
 obtain⟨oe,vs,oT,ts,q1,q2,q3,q4,q5,ne,t1,t2,t3⟩:=x
 exact⟨oe,vs,oT,ts,e1.trans q1,q2,q3,q4,q5,ne,e2.trans t1,t2,t3⟩
section
variable {P:i8}{w:t9}{K:j7}{mg:Str->Option b9}{base:Heap}{N N':List Str}{qual:Str}{scope scope':M8}{f:Addr}{cd:b9}{A:y7}{outer:List Env}{s₀:f6}{H₀:Hp}{E:XK}
theorem HF {pins:List (Addr × Obj)}{σ:St}{H:Hp}{s:f6}{fp:List Addr} (I0:C0 (dU (cj P w) P w K mg base N qual scope f cd A outer s₀ H₀ E) pins σ H s) (hfp:∀b∈fp,eR (dU (cj P w) P w K mg base N qual scope f cd A outer s₀ H₀ E) pins H b):
  du (cj P w) ((dU (cj P w) P w K mg base N qual scope f cd A outer s₀ H₀ E).compE scope' N' (M0 s) H (s.heap.objs.size::fp)) E:=by
 generalize hX:dU (cj P w) P w K mg base N qual scope f cd A outer s₀ H₀ E=X at I0 hfp ⊢
 have hs:X.stack=X.env::X.outer:=by rw[<- hX];rfl
 have hfr:X.env.frame=some X.env.locals:=by rw[<- hX];rfl
 have hex:X.ex=[]:=by rw[<- hX];rfl
 have hpn:X.pn=[]:=by rw[<- hX];rfl
 have hp:X.prog=P:=by rw[<- hX];rfl
 have hw:X.w=w:=by rw[<- hX];rfl
 have hxe:∀e s',j6 (r0 P w) X.A (nH X.env e) (fun _ s''=>cj P w X.outer X.H₀ X.s₀ E e s'') (fun e' s''=>cj P w X.outer X.H₀ X.s₀ E e' s'') s'->X.xe e s':=by rw[<- hX];exact fun _ _ h=>h
 clear hX
 intro pins1 σ1 H1 s1 e s' I h
 obtain⟨a,C,H',rfl,F,hE⟩:=h
 obtain⟨T0,x,n1,n2,n3,n4⟩:=F.exc
 rw[<- hp,<- hw] at F
 have I':=I.call' (ch:=[]) F.os F.un F.hok F.bare (fun b z=>absurd z (by simp))
 have Ia:C0 X [] σ H (M0 s):=(I0.pins_of (pins':=[]) fun p hp=>by cases hp).kept (t':=s.toks) fun b o e=>d9 _ e
 have I1:C0 X [] σ H s:=I0.pins_of (pins':=[]) fun p hp=>by cases hp
 have fD:eR X [] H s.heap.objs.size:=I1.fpOk (i9 _) (I1.hok.fresh (i9 _))
 have JX:C0 X [] σ H' s':=Ia.call' (ch:=s.heap.objs.size::fp) I'.os I'.base I'.hok I'.bare fun b hb=>by
  rcases List.mem_cons.mp hb with z|z
  ·rw[z];exact⟨fD.2.2.2.1,fD.2.1,fD.2.2.2.2.1,fD.2.2.2.2.2⟩
  ·obtain⟨_,f1,_,f3,f4,_⟩:=hfp b z
   exact⟨f3,f1,f4,fun p hp=>absurd (show p∈X.pn++[] from hp) (by rw[hpn];simp)⟩
 have hL:(M0 s).heap.objs.size=s.heap.objs.size+1:=Y2 s
 obtain⟨m,hns,_⟩:=I'.loc
 have hCf:H' (M0 s).heap.objs.size=none:=I'.free
 obtain⟨oC,es,ep,gC,dC,rC⟩:=hns
 have gC':s'.heap.get? (M0 s).heap.objs.size=some oC:=gC
 have xx:=x
 obtain⟨oe,vs,oT,ts,e1,e2,e3,e4,e5,ne,t1,t2,t3⟩:=xx
 have frd:∀b∈dz X.stack,∃o,s'.heap.get? b=some o/\∀vs,o.data≠.fields vs:=fun b hb=>(JX.stack.mem hb).2
 have neC:∀b o,s'.heap.get? b=some o->(∃vs,o.data=.fields vs)->b≠(M0 s).heap.objs.size:=fun b o q ⟨vs,d⟩ z=>by
  rw[z,gC'] at q;cases q;rw[dC] at d;cases d
 have frC:(M0 s).heap.objs.size ∉ dz X.stack:=fun z=>by
  obtain⟨_,o,ho,_⟩:=Ia.stack.mem z
  exact absurd (i5 ho) (Q3 _)
 have frF:∀b∈dz X.stack,b≠a/\b≠T0:=fun b hb=>by
  obtain⟨o,ho,hd⟩:=frd b hb
  exact⟨fun z=>by rw[z,e1] at ho;cases ho;exact hd _ e4,fun z=>by rw[z,t1] at ho;cases ho;exact hd _ t2⟩
 let S:Addr->Prop:=fun b=>b=a ∨ b=T0 ∨ b=(M0 s).heap.objs.size ∨ s'.heap.objs.size<=b
 have nS:∀b∈dz X.stack,¬ S b:=fun b hb z=>by
  obtain⟨o,ho,_⟩:=frd b hb
  rcases z with z|z|z|z
  ·exact(frF b hb).1 z
  ·exact(frF b hb).2 z
  ·exact frC (z ▸ hb)
  ·exact absurd (i5 ho) (Nat.not_lt.mpr z)
 have nex:∀b o,X.s₀.heap.get? b=some o->b ∉ s.heap.objs.size::fp:=fun b o q z=>by
  have lt:=i5 q
  rcases List.mem_cons.mp z with z|z
  ·have:=I1.sz
   rw[z] at lt
   exact absurd (y9 lt this) (Q3 _)
  ·rcases (hfp b z).2.2.2.1 with z|z
   ·rw[hex] at z;cases z
   ·exact absurd lt (Nat.not_lt.mpr z)
 have exN:∀b,b ∉ X.ex:=fun b z=>by rw[hex] at z;cases z
 have back:∀b,s1.heap.get? b=none->X.s₀.heap.get? b=none:=fun b z=>by
  cases q:X.s₀.heap.get? b with
  | none=>rfl
  | some o =>
   obtain⟨o1,g1⟩:=Ia.base.there b o q (exN b)
   obtain⟨o2,g2⟩:=I.base.there b o1 g1 (nex b o q)
   rw[z] at g2;cases g2
 have Sn:∀b,S b->X.s₀.heap.get? b=none/\H' b=none:=fun b z=>by
  rcases z with z|z|z|z
  ·rw[z];exact⟨back a n1,n3⟩
  ·rw[z];exact⟨back T0 n2,n4⟩
  ·rw[z];exact⟨aR Ia.sz,hCf⟩
  ·exact⟨aR (j9 JX.sz z),JX.hok.fresh z⟩
 have fr:X.A.frames=some (X.env::X.outer):=by rw[JX.ok.frames,hs]
 have ff:s'.heap.FunFrames X.base (X.env::X.outer):=by rw[<- hs];exact JX.stack
 rw[hs] at nS frC
 show j6 (r0 X.prog X.w) X.A (dh (.ref a) X.env) _ _ s'
 refine EG (S:=fun b=>b=a ∨ b=T0) fr ff hfr x (by simp[P0]) (.inl rfl) (.inr rfl) fun h1 T q1 q2 q3=>?_
 have d1:rW (dz (X.env::X.outer)) S s'.heap h1:=q3.mono fun b z=>z.elim .inl fun z=>.inr (.inl z)
 have nCa:a≠(M0 s).heap.objs.size:=neC a oe e1 ⟨vs,e4⟩
 have nCT:T≠(M0 s).heap.objs.size:=fun z=>by
  rw[z] at q2;exact absurd (i5 gC') (Nat.not_lt.mpr q2)
 have gC1:h1.get? (M0 s).heap.objs.size=some oC:=q3.keep _ _ (fun z=>z.elim (fun z=>nCa z.symm) fun z=>neC T0 oT t1 ⟨ts,t2⟩ z.symm) frC gC'
 have sz1:s'.heap.objs.size<=h1.objs.size:=by
  obtain⟨_,_,_,_,_,_,_,_,_,_,tt,_⟩:=q1
  exact aq (K6 q2 (i5 tt))
 refine⟨m,⟨oC,es,ep,gC1,dC,rC⟩,fun h2 hs2 cenv hc=>?_⟩
 have d2:rW (dz (X.env::X.outer)) S h1 h2:=rW.of fun b o hb e=>(hs2.2 b (fun z=>hb (.inr (.inr (.inl z))))).trans e
 have x2:Gs h2 a C T (P0 X.env.locals):=q1.same (hs2.2 a nCa) (hs2.2 T nCT)
 have x3:=x2
 obtain⟨oe2,vs2,oT2,ts2,u1,u2,u3,u4,u5,_⟩:=x3
 unfold PySem.passOn
 refine b7 (C4 (s:={ s' with heap:=h2 }) u1 u4 u5 ?_)
 rw[if_neg (show ¬ ((n9 T == A3)=true) from by simp)]
 refine b7 (pW (s:={ s' with heap:=h2 }) (S:=S) x2 (.inr (.inr (.inr q2))) (dz (X.env::X.outer)) fun h3 q4 sz3 d3=>?_)
 refine wA (hxe _ _ ?_)
 have dA:=(d1.trans d2).trans d3
 refine HY (s:={ s' with heap:=h3 }) (S:=S) fr (dA.frames nS ff) hfr q4 (.inl rfl) (.inr (.inr (.inr q2))) (fun b hb=>.inr (.inr (.inr (j9 sz1 (by rw[<- hs2.1];rw[<- sz3];exact hb))))) fun h4 T2 q5 sT2 d4=>?_
 have dF:=dA.trans d4
 have hfs:dz (X.env::X.outer)=X.env.locals::X.fs:=by
  unfold dz
  rw[U5,hfr]
  rfl
 have nn:∀b o,X.s₀.heap.get? b=some o->¬ S b:=fun b o e z=>by rw[(Sn b z).1] at e;cases e
 have nl:∀b o,X.s₀.heap.get? b=some o->b ∉ X.fs->b ∉ dz (X.env::X.outer):=fun b o e hb z=>by
  rw[hfs] at z
  rcases List.mem_cons.mp z with z|z
  ·exact absurd (y9 (i5 e) (z ▸ JX.ok.above)) (Q3 _)
  ·exact hb z
 refine⟨a,C,H',rfl,⟨JX.os,JX.bare,⟨fun b o e n hb _=>dF.keep b o (nn b o e) (nl b o e hb) (JX.base.keep b o e n hb (exN b)),fun b o e n hb _=>?_,fun b o e n _=>JX.base.free b o e n (exN b),fun b o e _=>?_,JX.base.tups,JX.base.frzs,JX.base.tbls⟩,fun b o e=>?_,T2,q5,back a n1,(Sn T2 sT2).1,n3,(Sn T2 sT2).2⟩,hE⟩
 ·obtain⟨sl,g1⟩:=JX.base.slot b o e n hb (exN b)
  obtain⟨sl2,g2⟩:=dF.slot b _ (nn b o e) g1
  exact⟨sl2,g2⟩
 ·obtain⟨o1,g1⟩:=JX.base.there b o e (exN b)
  obtain⟨sl,g2⟩:=dF.slot b _ (nn b o e) g1
  exact⟨_,g2⟩
 ·rw[<- hp,<- hw]
  have tr:∀c u q,H' c=some u->s'.heap.get? c=some q->h4.get? c=some q:=fun c u q hc e=>dF.keep c q (fun z=>by rw[(Sn c z).2] at hc;cases hc) (fun z=>by rw[JX.stkFree c (by rw[hs];exact z)] at hc;cases hc) e
  refine (JX.hok b o e).stay (fun c u hc q=>?_) (fun _ q=>q) fun _ _ q=>q
  rcases hc with z|z
  ·subst z;exact tr _ _ u e q
  ·exact tr _ _ u z q
end
end L2
namespace G
open PySem PySem.Spec PyProof.Rows L2 Mt
structure CtK (mg:Str->Option b9):Prop where
 letters:∃t,mg "MOST_LETTERS"=some (.int 8 t)
 figures:∃t,mg "FIGURES"=some (.str "0123456789" t)
def pL (c:Nat):Bool:=decide (97<=c)&&decide (c<=122)
noncomputable def S3 (x:Str):Bool:=decide (1<=x.length)&&decide (x.length<=8)&&x.cps.toList.all pL
noncomputable def MT (x:Str):Option Nat:=if x.length=1 then (C7 "0123456789" x 0 ("0123456789":Str).length 1).head? else none
noncomputable def JA (x:Str):Option (List (List Int)):=if 4<(C7 x "/" 0 x.length (x.length+1)).length+1 then none else Hr (((C7 x "/" 0 x.length (x.length+1)).length+1:Nat):Int) x
theorem aH {n:Nat}{rs:List (List Int)} (h:K8 (n:Int) (DR rs)=true):Mt.kB n 5 rs:=by
 obtain⟨rs',n',e,en,hR⟩:=xQ h
 have:n'=n:=by lia
 subst this
 rw[MA e];exact hR
theorem uk {x:Str}{rs:List (List Int)} (h:JA x=some rs):tU (DR rs):=by
 unfold JA at h
 generalize (C7 x "/" 0 x.length (x.length+1)).length+1=n at h
 by_cases h4:4<n
 ·rw[if_pos h4] at h;cases h
 ·rw[if_neg h4] at h
  have hR:=aH (DK h).2
  exact⟨oE (by rw[hR.len];lia),lM hR (by lia)⟩
section
variable {P:i8}{w:t9}{K:j7}{mg:Str->Option b9}{base:Heap}{f:Addr}{fd:A9}{ec:Nat->Addr}{Bs:Addr}
def xp (ec:Nat->Addr):Sp:=fun vs H Q E=>∃x:Str,vs=[.str x]/\x.length<=900/\(S3 x=true->∀H',n8 H H'->Q (.str x) H')/\(S3 x=false->∀H',n8 H H'->E (.ref (ec 9)) none H')
abbrev Dx:Stmt:=top 61
theorem Kt:B1 ["word"] ["word"] (r6 Dx):=⟨rfl,rfl,rfl,by decide+kernel,rfl,by decide+kernel,by decide+kernel⟩
theorem OE (c:Nat):decide ((kW c).cps.toList<("a":Str).cps.toList)=decide (c<97):=by
 have ea:("a":Str).cps.toList=[97]:=by decide+kernel
 rw[ea]
 refine decide_eq_decide.mpr ?_
 show [c]<[97] ↔ _
 rw[AB]
 exact⟨fun h=>h.elim id (fun z=>by cases z.2),A4⟩
theorem OD (c:Nat):decide (("z":Str).cps.toList<(kW c).cps.toList)=decide (122<c):=by
 have ea:("z":Str).cps.toList=[122]:=by decide+kernel
 rw[ea]
 refine decide_eq_decide.mpr ?_
 show [122]<[c] ↔ _
 rw[AB]
 exact⟨fun h=>h.elim id (fun z=>by cases z.2),A4⟩
theorem Lp (F:Y3 K "name_read" "name_read" Dx f fd) (B:Bt mg) (C:CtK mg) (R:jA K mg ec Bs):G7 P w K mg base (cj P w) 1 f fd ["word"] (xp ec):=by
 refine F.okX Kt (fun vs H Q E h=>?_) (fun cdv A outer s H vs Q E hr h=>?_)
 ·obtain⟨x,rfl,_⟩:=h
  rfl
 obtain⟨x,rfl,h9,q1,q0⟩:=h
 obtain⟨tl,hL⟩:=C.letters
 refine⟨_,j5 (K4 (PW.pt (rn (cB (DV rA rA t8 (A1 lx rfl B.len C9 (b8 (pv 0) f7)) (O6 (v:=.int 8) rfl hL ⟨tl,rfl⟩)))
   (lU (cB (az (A1 (hZ rfl) rfl B.all boot_all (b8 (O1 (N:=["letter"]) (ix:=[none]) (ifs:=[]) (tc:=T5) rfl (Lf (pv 0)) (fun s H ex=>bz (i:=0) (by decide+kernel) rfl (A4 rfl) (.inr rfl)) (fun s H ex=>L8)
    (fun s H ex=>pb rq rq D0 (pv 0) D0) rfl (by decide+kernel) (by rfl) (by rfl) (fun _=>rfl)) f7))))))) (n6 (U0 R.e9 (R.xc 9 (by decide)) D0 (fun σ H Q Q' m q=>m _ _ q))) D4)
  (n6 (A5 (pv 0))),?_⟩
 refine⟨_,rfl,x,rfl,sz (by lia),_,_,rfl,rfl,_,rfl,?_⟩
 unfold S3 at q1 q0
 by_cases h1:1<=x.length
 rotate_left
 ·rw[decide_eq_false (show ¬ (1:Int)<=(x.length:Int) by lia)]
  refine N3 ⟨_,rfl,O2 (q0 ?_ _ (n8.refl H))⟩
  rw[decide_eq_false h1];rfl
 rw[decide_eq_true (show (1:Int)<=(x.length:Int) by lia)]
 refine O2 ⟨_,_,rfl,rfl,_,rfl,?_⟩
 by_cases h8:x.length<=8
 rotate_left
 ·rw[decide_eq_false (show ¬ (x.length:Int)<=8 by lia)]
  refine O2 (q0 ?_ _ (n8.refl H))
  rw[decide_eq_false h8,aU];rfl
 rw[decide_eq_true (show (x.length:Int)<=8 by lia)]
 rw[decide_eq_true h1,decide_eq_true h8,Q0,Q0] at q1 q0
 refine N3 ⟨_,rfl,x,rfl,?_⟩
 refine IK (sz (show x.cps.size<=1000 from j9 h8 (by decide))) (fun i ys H2=>H2=H/\ys=((x.cps.toList.take i).map pL).map V.bl/\i<=x.cps.size) ⟨rfl,rfl,A7 _⟩ (fun i ys H2 h=>by rw[h.2.1,d8,d8,F9,B8];exact MI h.2.2) rfl (fun i c ys H2 hi h=>?_) (fun ys H2 h=>?_)
 ·obtain⟨rfl,rfl,hle⟩:=h
  have hlt:i<x.cps.size:=(Array.getElem?_eq_some_iff.mp hi).1
  have hi':x.cps.toList[i]?=some c:=by rw[O8];exact hi
  have step:(x.cps.toList.take (i+1)).map pL=(x.cps.toList.take i).map pL++[pL c]:=by
   rw[D1,hi',w5];rfl
  refine⟨_,rfl,"a",kW c,rfl,rfl,_,rfl,?_⟩
  rw[OE]
  unfold pL at step ⊢
  by_cases c1:97<=c
  ·rw[decide_eq_false (show ¬ c<97 by lia)]
   refine O2 ⟨kW c,"z",rfl,rfl,?_⟩
   rw[OD]
   refine⟨rfl,?_,hlt⟩
   rw[step,w5,decide_eq_true c1,Q0]
   by_cases c2:c<=122
   ·rw[decide_eq_true c2,decide_eq_false (show ¬ 122<c by lia)];rfl
   ·rw[decide_eq_false c2,decide_eq_true (show 122<c by lia)];rfl
  ·rw[decide_eq_true (show c<97 by lia)]
   refine N3 ⟨rfl,?_,hlt⟩
   rw[step,w5,decide_eq_false c1,V8];rfl
 ·obtain⟨rfl,rfl,_⟩:=h
  rw[J4 (by rw[B8];exact i9 _)]
  intro p hp
  refine⟨p,_,rfl,.inl (.of j0),?_,_,rfl,?_⟩
  ·rw[U9]
   exact List.all_eq_true.mpr fun b _=>by cases b <;> rfl
  ·have e:(((x.cps.toList.map pL).map V.bl).all xl)=x.cps.toList.all pL:=by
    rw[U9,U9]
    rfl
   rw[e]
   cases ha:x.cps.toList.all pL with
   | true=>exact N3 ⟨_,rfl,q1 ha _ (n8.new hp)⟩
   | false=>exact O2 (q0 ha _ (n8.new hp))
def xy (ec:Nat->Addr):Sp:=fun vs H Q E=>∃x:Str,vs=[.str x]/\x.length<=900/\(∀k,MT x=some k->Q (.int k) H)/\(MT x=none->∀H',n8 H H'->E (.ref (ec 9)) none H')
abbrev DE:Stmt:=top 62
theorem Kx:B1 ["word"] ["word"] (r6 DE):=⟨rfl,rfl,rfl,by decide+kernel,rfl,by decide+kernel,by decide+kernel⟩
theorem LB (F:Y3 K "figure_read" "figure_read" DE f fd) (B:Bt mg) (C:CtK mg) (R:jA K mg ec Bs):G7 P w K mg base (cj P w) 1 f fd ["word"] (xy ec):=by
 refine F.okX Kx (fun vs H Q E h=>?_) (fun cdv A outer s H vs Q E hr h=>?_)
 ·obtain⟨k,rfl,_⟩:=h
  rfl
 obtain⟨x,rfl,h9,q1,q0⟩:=h
 obtain⟨tf,hF⟩:=C.figures
 refine⟨_,j5 (K4 (PW.pt (rn (E4 iW (A1 lx rfl B.len C9 (b8 (pv 0) f7)) t8 (G0 _)) (lU (E4 xY (pv 0) (O6 (v:=.str "0123456789") rfl hF ⟨tf,rfl⟩) (by rfl))))) (n6 (U0 R.e9 (R.xc 9 (by decide)) D0 (fun σ H Q Q' m q=>m _ _ q))) D4)
  (n6 (A5 (cZ D2 uR PySem.F.type_str_index Bc (O6 (v:=.str "0123456789") rfl hF ⟨tf,rfl⟩) (b8 (pv 0) f7)))),?_⟩
 refine⟨_,rfl,_,rfl,sz (by lia),rfl,_,rfl,?_⟩
 unfold MT at q1 q0
 by_cases h1:x.length=1
 rotate_left
 ·rw[decide_eq_false (show ¬ V.int (x.length:Int)=V.int 1 from fun z=>h1 (by injection z with z;lia))]
  rw[if_neg h1] at q0
  exact O2 (q0 rfl H (n8.refl H))
 rw[decide_eq_true (show V.int (x.length:Int)=V.int 1 by rw[h1];rfl)]
 rw[if_pos h1] at q1 q0
 refine N3 ⟨_,rfl,x,"0123456789",rfl,rfl,_,rfl,?_⟩
 cases ho:C7 "0123456789" x 0 ("0123456789":Str).length 1 with
 | nil =>
  rw[ho] at q0
  exact O2 (q0 rfl H (n8.refl H))
 | cons k V3 =>
  rw[ho] at q1
  refine N3 ?_
  exact⟨rfl,_,rfl,_,_,k,V3,rfl,rfl,ho,q1 k rfl⟩
def xB (ec:Nat->Addr):Sp:=fun vs H Q E=>∃(x:Str) (l:Addr) (o:HO),vs=[.str x]/\x.length<=900/\H l=some o/\(JA x=none->∀H',n8 H H'->E (.ref (ec 9)) none H')/\∀rs,JA x=some rs->∀p H',n8 H H'->Dt l H' (DR rs) (.ref p)->Q (.ref p) H'
abbrev DF:Stmt:=top 63
theorem Dl:B1 ["word","rows"] ["word"] (r6 DF):=⟨rfl,rfl,rfl,by decide+kernel,rfl,by decide+kernel,by decide+kernel⟩
theorem LC (F:Y3 K "any_rule_read" "any_rule_read" DF f fd) (C:Ct mg) (R:jA K mg ec Bs) (c1:O9 P w K mg base 6 "rule_read" ["kinds","text"] (CS ec)):G7 P w K mg base (cj P w) 7 f fd ["word"] (xB ec):=by
 refine F.okX Dl (fun vs H Q E h=>?_) (fun cdv A outer s H vs Q E hr h=>?_)
 ·obtain⟨x,l,o,rfl,_⟩:=h
  rfl
 obtain⟨tkd,hkd⟩:=C.kinds
 refine⟨_,(@j5 _ _ _ _ _ (@F7 _ _ 1 _ _ _ _ Dl.nd rfl (A4 rfl) (@J6 _ _ _ _ _ _ _ _ cE (cZ D2 uS PySem.F.type_str_count Be (pv 0) (@b8 _ _ _ _ _ D0 f7 (by rfl))) t8) (by rfl) (by first|exact .inl rfl|exact .inr rfl))
  (@j5 _ _ _ _ _ (K4 (@E4 _ _ _ _ _ _ _ _ zG (pv 1) (O6 (v:=.int 4) rfl hkd ⟨tkd,rfl⟩) (G0 _)) (n6 (U0 R.e9 (R.xc 9 (by decide)) D0 (fun σ H Q Q' m q=>m _ _ q))) D4)
  (@n6 _ _ _ (A5 (G1 c1 hr rfl K0 (@b8 _ _ _ _ _ (pv 1) (@b8 _ _ _ _ _ (pv 0) f7 (by rfl)) (by rfl))))))),?_⟩
 obtain⟨x,l,o,rfl,h9,hl,q0,q1⟩:=h
 unfold JA at q0 q1
 refine⟨_,rfl,rfl,_,_,rfl,rfl,_,_,rfl,rfl,?_⟩
 try dsimp only
 generalize (C7 x "/" 0 x.length (x.length+1)).length=m at q0 q1
 refine⟨_,rfl,_,_,rfl,rfl,_,rfl,?_⟩
 by_cases h4:4<m+1
 ·rw[if_pos h4] at q0
  rw[decide_eq_true (show ((m:Nat):Int)+1 > 4 by lia)]
  exact O2 (q0 rfl H (n8.refl H))
 ·rw[if_neg h4] at q0 q1
  rw[decide_eq_false (show ¬ ((m:Nat):Int)+1 > 4 by lia)]
  refine N3 ⟨_,rfl,_,rfl,l,o,.int ((m:Int)+1),.str x,_,_,rfl,hl,Dt.int _ _ _,Dt.str _ _ _,fun z=>?_,fun n e n1 n4=>⟨(fun z=>by cases z),fun t e2=>?_⟩⟩
  ·have:af 1 4 (.int ((m:Int)+1))=(decide (1<=(m:Int)+1)&&decide ((m:Int)+1<=4)):=rfl
   rw[this,decide_eq_true (by lia),decide_eq_true (by lia)] at z
   cases z
  ·cases e
   cases e2
   exact⟨h9,q0,q1⟩
inductive Wd where
 | name (x:Str)
 | urn (ns:List Int)
 | rule (rs:List (List Int))
 | fig (k:Nat)
deriving DecidableEq
noncomputable def dw (fo x:Str):Option Wd:=if fo="name" then (if S3 x=true then some (.name x) else none) else if fo="urn" then (MO x).map .urn else if fo="rule" then (JA x).map .rule else (MT x).map .fig
noncomputable def MU (z:Addr) (H:Hp):Wd->V->Prop
 | .name x,v=>v=.str x
 | .urn ns,v=>∃a,v=.ref a/\H a=some (.tup (ns.map V.int))
 | .rule rs,v=>Dt z H (DR rs) v/\tU (DR rs)
 | .fig k,v=>v=.int k
theorem MU.same {z:Addr}{H H':Hp}{v:V}:∀{d:Wd},MU z H d v->n8 H H'->MU z H' d v
 | .name _,h,_=>h
 | .urn _,⟨a,e,h⟩,g=>⟨a,e,g _ _ h⟩
 | .rule rs,h,g=>⟨h.1.kp (g.kp z),h.2⟩
 | .fig _,h,_=>h
def CO (ec:Nat->Addr):Sp:=fun vs H Q E=>∃(fo x:Str) (z:Addr) (oz:HO),vs=[.str fo,.str x]/\x.length<=900/\H z=some oz/\(dw fo x=none->∀H',n8 H H'->E (.ref (ec 9)) none H')/\∀d,dw fo x=some d->∀v H',n8 H H'->MU z H' d v->Q v H'
abbrev Kz:Stmt:=top 64
theorem NT:B1 ["form","word"] ["form","word"] (r6 Kz):=⟨rfl,rfl,rfl,by decide+kernel,rfl,by decide+kernel,by decide+kernel⟩
theorem Om (F:Y3 K "word_read" "word_read" Kz f fd) (c1:O9 P w K mg base 1 "name_read" ["word"] (xp ec)) (c2:O9 P w K mg base 6 "urn_read" ["text"] (CQ ec)) (c3:O9 P w K mg base 1 "figure_read" ["word"] (xy ec)) (c4:O9 P w K mg base 7 "any_rule_read" ["word"] (xB ec)):G7 P w K mg base (cj P w) 8 f fd ["form","word"] (CO ec):=by
 refine F.okX NT (fun vs H Q E h=>?_) (fun cdv A outer s H vs Q E hr h=>?_)
 ·obtain⟨fo,x,z,oz,rfl,_⟩:=h
  rfl
 obtain⟨fo,x,z,oz,rfl,h9,hz,q0,q1⟩:=h
 refine⟨_,j5 (K4 (E4 Z0 (pv 0) D0 (G0 _)) (n6 (A5 (G1 (c1.up (by decide)) hr rfl K0 (b8 (pv 1) f7)))) D4)
  (j5 (K4 (E4 Z0 (pv 0) D0 (G0 _)) (n6 (A5 (G1 (c2.up (by decide)) hr rfl K0 (b8 (pv 1) f7)))) D4)
  (j5 (K4 (E4 Z0 (pv 0) D0 (G0 _)) (n6 (A5 (G1 c4 hr rfl K0 (b8 (pv 1) f7)))) D4)
  (n6 (A5 (G1 (c3.up (by decide)) hr rfl K0 (b8 (pv 1) f7)))))),?_⟩
 have eqS:∀{a b:Str},decide (V.str a=V.str b)=decide (a=b):=fun {a b}=>decide_eq_decide.mpr ⟨fun z=>by injection z,fun z=>by rw[z]⟩
 unfold dw at q0 q1
 refine⟨_,rfl,rfl,_,rfl,?_⟩
 rw[eqS]
 by_cases e1:fo="name"
 ·rw[if_pos e1] at q0 q1
  rw[decide_eq_true e1]
  refine O2 ⟨_,rfl,x,rfl,h9,fun hn H' g=>?_,fun hn H' g=>?_⟩
  ·rw[if_pos hn] at q1
   exact q1 _ rfl _ H' g rfl
  ·rw[if_neg (by rw[hn];decide)] at q0
   exact q0 rfl H' g
 rw[if_neg e1] at q0 q1
 rw[decide_eq_false e1]
 refine N3 ⟨_,rfl,rfl,_,rfl,?_⟩
 rw[eqS]
 by_cases e2:fo="urn"
 ·rw[if_pos e2] at q0 q1
  rw[decide_eq_true e2]
  refine O2 ⟨_,rfl,z,.str x,.str x,rfl,Dt.str _ _ _,(fun z=>by cases z),fun t et=>?_⟩
  cases et
  refine⟨h9,fun hn H' g=>?_,fun ns hn p H' g _ hp=>?_⟩
  ·rw[hn] at q0;exact q0 rfl H' g
  ·rw[hn] at q1;exact q1 _ rfl _ H' g ⟨p,rfl,hp⟩
 rw[if_neg e2] at q0 q1
 rw[decide_eq_false e2]
 refine N3 ⟨_,rfl,rfl,_,rfl,?_⟩
 rw[eqS]
 by_cases e3:fo="rule"
 ·rw[if_pos e3] at q0 q1
  rw[decide_eq_true e3]
  refine O2 ⟨_,rfl,x,z,oz,rfl,h9,hz,fun hn H' g=>?_,fun rs hn p H' g hp=>?_⟩
  ·rw[hn] at q0;exact q0 rfl H' g
  ·have ho:=uk hn
   rw[hn] at q1;exact q1 _ rfl _ H' g ⟨hp,ho⟩
 rw[if_neg e3] at q0 q1
 rw[decide_eq_false e3]
 refine N3 ⟨_,rfl,x,rfl,h9,fun k hn=>?_,fun hn H' g=>?_⟩
 ·rw[hn] at q1;exact q1 _ rfl _ H (n8.refl H) rfl
 ·rw[hn] at q0;exact q0 rfl H' g
end
structure uv (K:j7) (w:t9) (mg:Str->Option b9) (dl:Addr) (f:Str->Option b9):Prop where
 m:mg "LINES"=some (.ref dl)
 top:FS K w dl f
def Af (K:j7) (f:Str->Option b9) (a:Str) (fos:List Str):Prop:=∃t:Addr,f a=some (.ref t)/\∀H,fC K H t (fos.map V.str)
noncomputable def rm:List (Str × List Str):=[("urn",["name","urn"]),("draw",["name","rule","figure","name"]),("kept",[]),("show",["name"]),("chance",["name","figure"]),("stands",["name","rule","figure"]),("mean",["name","rule","figure"]),("fair",["name","rule"])]
noncomputable def nA (a:Str):Option (List Str):=(rm.find? fun r=>decide (r.1=a)).map (·.2)
structure FV (K:j7) (f:Str->Option b9):Prop where
 no:∀a,nA a=none->f a=none
 yes:∀a fos,nA a=some fos->Af K f a fos
noncomputable def P4:List Str->List Str->Option (List Wd)
 | fo::fos,x::xs=>match dw fo x,P4 fos xs with
  | some d,some ds=>some (d::ds)
  | _,_=>none
 | _,_=>some []
noncomputable def de (t:Str):Option (Str × List Wd):=match A8 t " " with
 | []=>none
 | a::ws=>match nA a with
  | none=>none
  | some fos=>if fos.length=ws.length then (P4 fos ws).map fun ds=>(a,ds) else none
theorem Ft {a:Str}{fos:List Str} (h:nA a=some fos):fos.length<=4:=by
 unfold nA at h
 obtain⟨r,hr,rfl⟩:=Option.map_eq_some_iff.mp h
 have hm:=gw hr
 have:∀r∈rm,r.2.length<=4:=by decide+kernel
 exact this r hm
noncomputable def qf (z:Addr) (H:Hp):List Wd->List V->Prop
 | [],ys=>ys=[]
 | d::ds,ys=>∃v vs,ys=v::vs/\MU z H d v/\qf z H ds vs
theorem qf.same {z:Addr}{H H':Hp}:∀{ds:List Wd}{ys:List V},qf z H ds ys->n8 H H'->qf z H' ds ys
 | [],_,h,_=>h
 | _::_,_,⟨v,vs,e,h1,h2⟩,g=>⟨v,vs,e,h1.same g,qf.same h2 g⟩
theorem qf.snoc {z:Addr}{H:Hp}{d:Wd}{v:V} (hv:MU z H d v):∀{ds:List Wd}{ys:List V},qf z H ds ys->qf z H (ds++[d]) (ys++[v])
 | [],ys,h=>by rw[show ys=[] from h];exact⟨v,[],rfl,hv,rfl⟩
 | e::ds,_,⟨u,us,rfl,h1,h2⟩=>⟨u,us++[v],rfl,h1,qf.snoc hv h2⟩
theorem qf.len {z:Addr}{H:Hp}:∀{ds:List Wd}{ys:List V},qf z H ds ys->ys.length=ds.length
 | [],ys,h=>by rw[show ys=[] from h];rfl
 | _::ds,_,⟨u,us,rfl,_,h2⟩=>by rw[m8,m8,qf.len h2]
theorem va {fo x:Str}:∀{fos ws:List Str}{i:Nat},fos[i]?=some fo->ws[i]?=some x->dw fo x=none->P4 fos ws=none
 | f::fos,y::ws,0,h1,h2,h=>by
  cases h1;cases h2
  unfold P4
  rw[h]
 | f::fos,y::ws,i+1,h1,h2,h=>by
  have:=va (fos:=fos) (ws:=ws) (i:=i) (by simpa using h1) (by simpa using h2) h
  unfold P4
  rw[this]
  cases dw f y <;> rfl
 | [],_,_,h1,_,_=>by simp at h1
 | _::_,[],_,_,h2,_=>by simp at h2
theorem qT:∀{fos ws:List Str}{ds:List Wd},fos.length=ws.length->ds.length=ws.length->(∀(i:Nat) fo x d,fos[i]?=some fo->ws[i]?=some x->ds[i]?=some d->dw fo x=some d)->P4 fos ws=some ds
 | [],[],[],_,_,_=>rfl
 | fo::fos,x::ws,d::ds,h1,h2,h=>by
  unfold P4
  rw[h 0 fo x d rfl rfl rfl,qT (by simpa using h1) (by simpa using h2) fun i fo x d a b c=>h (i+1) fo x d (by simpa using a) (by simpa using b) (by simpa using c)]
 | [],_::_,_,h1,_,_=>by simp at h1
 | _::_,[],_,h1,_,_=>by simp at h1
 | [],[],_::_,_,h2,_=>by simp at h2
 | _::_,_::_,[],_,h2,_=>by simp at h2
section
variable {P:i8}{w:t9}{K:j7}{mg:Str->Option b9}{base:Heap}{f:Addr}{fd:A9}{ec:Nat->Addr}{Bs dl:Addr}{fL:Str->Option b9}
def CV (ec:Nat->Addr):Sp:=fun vs H Q E=>∃(st:Addr) (oz:HO) (d:C1) (v:V),vs=[v]/\H st=some oz/\Dt st H d v/\(ki d=false->∀H',n8 H H'->E (.ref (ec 9)) none H') /\
 ∀t,d=.str t->t.length<=900/\(de t=none->∀H',n8 H H'->E (.ref (ec 9)) none H')/\∀a ds,de t=some (a,ds)->∀p l ys H',n8 H H'->H' p=some (.tup [.str a,.ref l])->H' l=some (.lst ys)->qf st H' ds ys->Q (.ref p) H'
abbrev KL:Stmt:=top 65
theorem Dj:B1 ["line","first","others"] ["line"] (r6 KL):=⟨rfl,rfl,rfl,by decide+kernel,rfl,by decide+kernel,by decide+kernel⟩
theorem Oz (F:Y3 K "line_read" "line_read" KL f fd) (B:Bt mg) (R:jA K mg ec Bs) (L:uv K w mg dl fL) (LT:FV K fL) (c1:O9 P w K mg base 1 "need_text" ["thing"] (oA ec)) (c2:O9 P w K mg base 8 "word_read" ["form","word"] (CO ec)):G7 P w K mg base (cj P w) 9 f fd ["line"] (CV ec):=by
 refine F.okX Dj (fun vs H Q E h=>?_) (fun cdv A outer s H vs Q E hr h=>?_)
 ·obtain⟨st,oz,d,v,rfl,_⟩:=h
  rfl
 obtain⟨z,oz,d,v,rfl,hz,hd,q0,q1⟩:=h
 refine⟨_,j5 (X9 (G1 (c1.up (by decide)) hr rfl K0 (b8 (pv 0) f7)))
  (j5 (iT (cZ D2 T8 iu pD (pv 0) (b8 D0 f7)) (HC rfl (R4 (i:=1) Dj.nd rfl (A4 rfl)) (R4 (i:=2) Dj.nd rfl (A4 rfl))))
  (j5 (K4 (PW.pt (rn (E4 (AV L.top) (pv 1) (O6 (v:=.ref dl) rfl L.m rfl) (by rfl)) (lU (E4 iW (A1 E2 rfl B.len C9 (b8 (pv 2) f7)) (A1 E2 rfl B.len C9 (b8 (rp L.top (O6 (v:=.ref dl) rfl L.m rfl) (pv 1) (fun _ _=>rfl)) f7)) (G0 _))))) (n6 (U0 R.e9 (R.xc 9 (by decide)) D0 (fun σ H Q Q' m q=>m _ _ q))) D4)
  (n6 (A5 (cC (b8 (pv 1) (b8 (El (N:=["form","word"]) (ix:=[none,none]) (ifs:=[]) (tc:=T5) rfl (DZ rfl B.zip (b8 (rp L.top (O6 (v:=.ref dl) rfl L.m rfl) (pv 1) (fun _ _=>rfl)) (b8 (pv 2) f7)))
   (fun s H ex=>Ec (K:=K) (n:=2) rfl rfl (L9 (bz (i:=0) (by decide+kernel) rfl (A4 rfl) (.inr rfl)) (L9 (bz (i:=1) (by decide+kernel) rfl (A4 rfl) (.inr rfl)) bQ))) (fun s H ex=>L8)
   (fun pins σ H s fp I0 hfp=>G1 c2 hr rfl (HF I0 hfp) (b8 (pv 0) (b8 (pv 1) f7))) rfl (by decide+kernel) (by rfl) (by rfl) (fun _=>rfl)) f7))))))),?_⟩
 refine⟨_,rfl,z,d,v,rfl,hd,fun hs=>?_,fun hs=>q0 hs H (n8.refl H)⟩
 obtain⟨t,rfl⟩:∃t,d=.str t:=by
  cases d with
  | str t=>exact⟨t,rfl⟩
  | _=>cases hs
 have ev:v=.str t:=by unfold Dt at hd;exact hd
 subst ev
 obtain⟨h9,qn,qs⟩:=q1 t rfl
 refine⟨_,rfl,rfl,_,_,rfl,rfl,by decide+kernel,h9,fun ps hps=>?_⟩
 have hsz:∀x∈A8 t " ",x.length<=900:=fun x hx=>by
  have hw:=kD t " " (by decide+kernel)
  have:x.length<=((A8 t " ").map fun y=>y.length).sum:=by
   generalize A8 t " "=l at hx
   clear hw hps
   induction l with
   | nil=>cases hx
   | cons a l ih =>
    rw[r9,P9]
    rcases List.mem_cons.mp hx with e|e
    ·rw[e];lia
    ·have:=ih e;lia
  have hp:=ji hx
  lia
 unfold de at qn qs
 cases hsp:A8 t " " with
 | nil =>
  have:=split_pos t " "
  rw[hsp] at this
  exact absurd this (by decide)
 | cons a ws =>
 rw[hsp] at hsz
 have g1:n8 H (A6 H ps (.lst ((a::ws).map V.str))):=n8.new hps
 have h1:A6 H ps (.lst ((a::ws).map V.str)) ps=some (.lst (.str a::ws.map V.str)):=j0
 generalize A6 H ps (.lst ((a::ws).map V.str))=H1 at g1 h1
 refine⟨ps,.str a,ws.map V.str,rfl,.of h1,fun pl hpl=>?_⟩
 have g2:n8 H1 (A6 H1 pl (.lst (ws.map V.str))):=n8.new hpl
 have h2:A6 H1 pl (.lst (ws.map V.str)) pl=some (.lst (ws.map V.str)):=j0
 try dsimp -proj only[R7]
 generalize A6 H1 pl (.lst (ws.map V.str))=H2 at g2 h2
 rw[hsp] at qn qs
 dsimp only at qn qs
 refine⟨_,rfl,a,rfl,rfl,_,rfl,?_⟩
 cases hf:nA a with
 | none =>
  rw[LT.no a hf]
  rw[hf] at qn
  exact O2 (qn rfl H2 (g1.trans g2))
 | some fos =>
 rw[hf] at qn qs
 dsimp only at qn qs
 have hf4:=Ft hf
 obtain⟨tt,hft,ht⟩:=LT.yes a fos hf
 rw[hft]
 refine N3 ⟨_,rfl,pl,_,rfl,.inl (.of h2),_,rfl,a,.ref tt,_,rfl,rfl,hft,rfl,tt,_,rfl,.inr (ht H2),rfl,_,rfl,?_⟩
 rw[d8,d8]
 by_cases hfl:fos.length=ws.length
 rotate_left
 ·rw[decide_eq_false (fun e=>hfl (by injection e with e;lia))]
  rw[if_neg hfl] at qn
  exact O2 (qn rfl H2 (g1.trans g2))
 rw[decide_eq_true (by rw[hfl])]
 rw[if_pos hfl] at qn qs
 refine N3 ?_
 refine⟨_,rfl,_,rfl,a,.ref tt,_,rfl,rfl,hft,rfl,_,rfl,tt,pl,_,_,rfl,ht H2,.of h2,?_⟩
 refine BH (sz (by rw[d8];lia)) (by rw[d8,d8,hfl]) (fun i ys H3=>n8 H2 H3/\∃ds,qf z H3 ds ys/\ds.length=i/\∀(j:Nat) fo x d,fos[j]?=some fo->ws[j]?=some x->ds[j]?=some d->dw fo x=some d) ⟨n8.refl _,[],rfl,rfl,fun j fo x y _ _ hy=>by simp at hy⟩ (fun i ys H3 h=>by obtain⟨_,ds,h1,h2,_⟩:=h;rw[h1.len,h2]) (fun i ys H3 _ h=>⟨ht H3,.of (h.1 _ _ h2)⟩) ⟨rfl,rfl⟩ (fun i ys H3 vx vy p hx hy hp h=>?_) (fun ys H3 h=>?_)
 ·obtain⟨h4,ds,h5,h6,h7⟩:=h
  rw[v8] at hx hy
  obtain⟨fo,hfo,rfl⟩:=Option.map_eq_some_iff.mp hx
  obtain⟨x,hxx,rfl⟩:=Option.map_eq_some_iff.mp hy
  refine⟨_,rfl,_,rfl,fo,x,z,oz,rfl,hsz x (i4 _ (y8 hxx)),n8.new hp _ _ (h4 _ _ (g2 _ _ (g1 _ _ hz))),fun hn H4 g=>?_,fun d hdd v H4 g hv=>?_⟩
  ·refine qn ?_ H4 (((g1.trans g2).trans h4).trans ((n8.new hp).trans g))
   rw[va hfo hxx hn];rfl
  ·refine⟨h4.trans ((n8.new hp).trans g),ds++[d],(h5.same ((n8.new hp).trans g)).snoc hv,by rw[y6,h6];rfl,fun j fo' x' d' e1 e2 e3=>?_⟩
   rcases PQ j i with hj|hj
   ·rw[uU (by lia)] at e3
    exact h7 j fo' x' d' e1 e2 e3
   ·have hji:j=i:=by
     have:j<(ds++[d]).length:=(List.getElem?_eq_some_iff.mp e3).1
     rw[y6,h6] at this
     simp at this
     lia
    subst hji
    rw[uF (by lia),h6,Nat.sub_self] at e3
    rw[hfo] at e1;rw[hxx] at e2
    cases e1;cases e2;cases e3
    exact hdd
 ·obtain⟨h4,ds,h5,h6,h7⟩:=h
  rw[d8] at h6
  intro p hp
  have hall:=qT hfl (by lia) h7
  rw[hall] at qs
  refine⟨sz (Nat.le_of_ble_eq_true rfl),fun r hr'=>qs a ds rfl r p ys _ (((g1.trans g2).trans h4).trans ((n8.new hp).trans (n8.new hr'))) j0 (n8.new hr' _ _ j0) (h5.same ((n8.new hp).trans (n8.new hr')))⟩
end
end G
namespace L2
open PySem PySem.Spec PyProof.Rows
section
variable {prog:i8}{w:t9}{A:y7}{R:eW->f6->Prop}{s:f6}{elt t0 i0 t1 i1:Expr}{fs:List Expr}{scope:M8}{pos:Pos}{it acc:b9}{env:Env}
end
section
variable {X:Cx}{scope:M8}{N:List Str}{ix:List (Option Nat)}{elt t0 i0 t1 i1:Expr}{fs:List Expr}{pos:Pos}{wi wj:TI}{g g1:TG}{te:TE}{tc:TT}
end
end L2
namespace L2
open PySem PySem.Spec PyProof.Rows HT
section
open PySem.SeqAt
open PySem.AutoSeq1 (wpAny_loadPart')
open PySem.MeetsSeq PySem.MeetsSeq2 PySem.MeetsSeq3
end
section
variable {prog:i8}{w:t9}{A:y7}{s:f6}
end
section
variable {X:Cx}
end
end L2
namespace L2
open PySem PySem.Spec PyProof.Rows
section
variable {X:Cx}{pins:List (Addr × Obj)}{σ:St}{H:Hp}{p d it:Addr}{rs:List Addr}{kvs:List (List O4 × V)}{A:y7}{R:eW->f6->Prop}
end
end L2
namespace L2
open PySem PySem.Spec PyProof.Rows HT
section
variable {prog:i8}{w:t9}{A:y7}{E:b9->f6->Prop}{s:f6}
end
section
variable {X:Cx}{H:Hp}
end
def ltS (a b:Str):Bool:=decide (a.cps.toList<b.cps.toList)
section
variable {prog:i8}{w:t9}{A:y7}{E:b9->f6->Prop}{s:f6}
theorem vY {d:Addr}{kvs:List (O4 × b9)}{ep:Nat}{Q:List b9->f6->Prop} (hh:A.handled=none) (lo:(d == P7)=false) (hd:s.heap.DictAt (O7 prog w) d kvs ep) (hsz:kvs.length<=i7)
  (h:∀vs h' tk,vs.length=kvs.length->(∀(j:Nat) v,vs[j]?=some v->∃k x,kvs[j]?=some (k,x)/\pP k v=true)->s.heap.objs.size<h'.objs.size->(∀b o,s.heap.get? b=some o->h'.get? b=some o)->Q vs { s with heap:=h',toks:=tk }):j6 (r0 prog w) A (Pf (.ref d)) Q E s:=by
 have lt:=hd.lt_size
 unfold Pf
 refine b7 (wpAny_runValue (cI Gj ?_))
 rw[X3 Gi _]
 show j6 _ A.in1 (GA [] >>= fun l=>again (.builtin "list.__iadd__" ⟨[l,.ref d],[]⟩)) _ _ s
 refine b7 (E6 (g0 ⟨fg iA _,cI MM ?_⟩))
 rw[X3 iA _]
 have hS1:(s.heap.push { cls:=.type "list",data:=.seq ([]:List b9).toArray }).get? s.heap.objs.size=some { cls:=.type "list",data:=.seq #[] }:=j8 _ rfl
 show j6 _ A.in1 (Z7 (.ref s.heap.objs.size) (.ref d) (.ref s.heap.objs.size)) _ _ _
 have key:=W.kdl_extend (A:=A) (s:={ s with heap:=s.heap.push { cls:=.type "list",data:=.seq ([]:List b9).toArray } }) (W.kdl_dict (prog:=prog) (w:=w) (knd:=O7 prog w) (kvs:=kvs) (ep:=ep) lo)
  (R:=fun (q:eW) (s':f6)=>∃(h':Heap) (tk:Nat) (acc':Array b9) (c':Nat),q=.ok (.ret (.ref s.heap.objs.size))/\s'={ s with heap:=h',toks:=tk } /\
   (∀b o,s.heap.get? b=some o->h'.get? b=some o)/\h'.get? s.heap.objs.size=some { cls:=.type "list",dict:=none,data:=.seq acc' c',slots:=#[] }/\ItemsOf (fun i v=>∃k x,kvs[i]?=some (k,x)/\(O7 prog w).is k v=true) acc' kvs.length)
  hh (hd.push _) s.heap.objs.size (B7 lt) (B7 lt) (.ref s.heap.objs.size) 0 hS1
  (fun h' tk acc' c' hk hS' hacc=>⟨h',tk,acc',c',rfl,rfl,fun b o e=>hk b o (m9 (i5 e)) (d9 _ e),hS',hacc⟩) hsz
 have out:∀(h':Heap) (tk:Nat) (acc':Array b9) (c':Nat),(∀b o,s.heap.get? b=some o->h'.get? b=some o)->h'.get? s.heap.objs.size=some { cls:=.type "list",dict:=none,data:=.seq acc' c',slots:=#[] }->ItemsOf (fun i v=>∃k x,kvs[i]?=some (k,x)/\(O7 prog w).is k v=true) acc' kvs.length ->
   j6 (r0 prog w) A (do
    let o <- load s.heap.objs.size
    match o.data with
    | .seq xs _=>pure xs.toList
    | _=>unsupported "internal:collect") Q E { s with heap:=h',toks:=tk }:=fun h' tk acc' c' k1 k2 k3=>by
  refine b7 (Nc k2 (g0 ?_))
  show Q acc'.toList _
  exact h acc'.toList h' tk (by rw[B8];exact k3.1) (fun j v e=>k3.2 j v (by rw[<- O8];exact e)) (i5 k2) k1
 refine B5 key (fun fin s' x=>?_) fun e s' x=>?_
 ·cases fin with
  | done f =>
   obtain⟨h',tk,acc',c',e,rfl,k1,k2,k3⟩:=x
   cases e
   exact out h' tk acc' c' k1 k2 k3
  | again c1 =>
   refine⟨x.1,aE x.2 fun r s2 y=>?_⟩
   obtain⟨h',tk,acc',c',e,rfl,k1,k2,k3⟩:=y
   subst e
   exact out h' tk acc' c' k1 k2 k3
 ·obtain⟨_,_,_,_,z,_⟩:=x
  cases z
end
theorem LH {κ:Type}{kvs:List (κ × V)}{vs:List (κ × b9)} (h:KV kvs vs):kvs.length=vs.length:=by
 unfold KV at h
 induction h with
 | nil=>rfl
 | cons _ _ ih=>rw[m8,m8,ih]
theorem LI {κ:Type}{kvs:List (κ × V)}{vs:List (κ × b9)} (h:KV kvs vs):kvs.map (·.1)=vs.map (·.1):=by
 unfold KV at h
 induction h with
 | nil=>rfl
 | cons e _ ih=>rw[r9,r9,ih,e.1]
theorem qU:∀{its:List b9},(∀v∈its,∃x t,v=aV x t)->G6 ((its.map Pe).map V.str) its
 | [],_=>.nil
 | v::its,h=>by
  obtain⟨i,t,e⟩:=h v f9
  subst e
  exact .cons ⟨t,rfl⟩ (qU fun v hv=>h v (i4 _ hv))
section
variable {X:Cx}{H:Hp}
end
end L2
namespace L2
open PySem PySem.Spec PyProof.Rows
structure jF (P:i8) (w:t9) (K:j7) (mg:Str->Option b9) (base:Heap) (C:Addr) (k:Nat) (m:Str) (ps:List Str) (sp:Sp):Prop where
 ex:∃f fd,IT K C m f/\bc K fd ps []/\G7 P w K mg base (cj P w) k f fd ps sp
theorem jF.up {P:i8}{w:t9}{K:j7}{mg:Str->Option b9}{base:Heap}{C:Addr}{j k:Nat}{m:Str}{ps:List Str}{sp:Sp} (c:jF P w K mg base C j m ps sp) (h:j<=k):jF P w K mg base C k m ps sp :=
 let ⟨f,fd,a,b,d⟩:=c.ex;⟨f,fd,a,b,d.mono h⟩
def tMx (C:Addr) (m:Str) (sp:Sp) (E:XK) (ta:TE) (t:TA):TE:=fun σ H Q=>ta σ H fun x H1=>∃a dx fs,x=.ref a/\H1 a=some (.ins C dx fs)/\fs.lookup m=none /\
 t σ H1 fun vs H2=>sp (x::vs) H2 Q E
section
variable {X:Cx}{k:Nat}{C:Addr}{ps:List Str}{sp:Sp}{m:Str}{pos apos:Pos}{e o:Expr}{es:List Expr}{ta:TE}{t:TA}{E:XK}
theorem cY {pl:Sem Bool} (he:PE X o ta) (c:Cd X.K C) (M:jF X.prog X.w X.K X.mg X.base C k m ps sp) (hr:Y9 k X.A) (hx:du (cj X.prog X.w) X E) (ha:PA X (e::es) t)
  (hst:A2 (e::es) X.env=(false,eval e X.env)::A2 es X.env:=by rfl) (hpl:(V2 pos (A2 es X.env)).any (·.1)=false:=by rfl)
  (ht:eval (.Call (.Attribute o m apos) (e::es) [] pos) X.env=(do
   let ov <- eval o X.env
   Gy apos.atName
   let (f,first) <- kF [ov] (uQ ov m pl)
   callWith pos f first (V2 pos (A2 (e::es) X.env)) (sj pos (jg [] X.env))):=by rfl):
  PE X (.Call (.Attribute o m apos) (e::es) [] pos) (tMx C m sp E ta t):=by
 obtain⟨f,fd,hm,hb,F⟩:=M.ex
 have h:=zC (pl:=pl) he c hm F hr hb .nil hx ha hst hpl ht
 have e:ve C m sp [] E ta t=tMx C m sp E ta t:=by
  funext σ H Q
  unfold ve tMx
  simp only[S8]
 rw[<- e];exact h
end
end L2
namespace G
open PySem PySem.Spec PyProof.Rows L2 Mt Md Mq
def Pt (j:Nat):Stmt:=match top 67 with
 | .ClassDef _ _ _ b _ _ _ _ _ _ _=>b.getD j (.Pass ⟨0,0,0,0⟩)
 | s=>s
theorem FJ {t b N:Int} (ht:0<=t) (hb:0<b) (h1:t<N) (h2:b<N):0<=(cut t b).num/\(cut t b).num<N/\(0:Int)<=(cut t b).den/\((cut t b).den:Int)<N:=by
 refine⟨FI ht hb,?_,au _,?_⟩
 ·rw[nY hb]
  exact S1 (qB _ ht) h1
 ·rw[ue hb]
  exact S1 (qB _ (Int.le_of_lt hb)) h2
def fS (q:Rat):Str:=fT q.num (q.den:Int)
variable {ns:List Int}
theorem ax (h:Q5 20 (DI ns)=true):Mt.gx ns.length 20 ns/\1<=ns.length/\ns.length<=4:=by
 obtain⟨ms,e,h1,h4,hb,hs⟩:=jm h
 have:ns=ms:=by
  injection e with e
  exact iZ (fun x y z=>by injection z) _ _ e
 subst this
 exact⟨⟨rfl,hb,hs⟩,h1,h4⟩
structure rX (K:j7) (C:Addr):Prop where
 cls:Cd K C
 na:kr K C "urns_by_name"
def Ga (C:Addr) (H:Hp) (d m:Addr) (kvs:List (O4 × V)):Prop:=∃dx,H d=some (.ins C dx [("urns_by_name",.ref m)])/\H m=some (.dK kvs)
inductive gs where
 | no (i:Nat)
 | tx (t:Str)
 | put (x:Str) (ns:List Int)
 | any
deriving DecidableEq
noncomputable def Iq:List Wd->Option Nat
 | [.fig k]=>some k
 | _=>none
noncomputable def Hn:List Wd->Option (List (List Int) × Nat)
 | [.rule rs,.fig k]=>some (rs,k)
 | _=>none
noncomputable def GZ:List Wd->Option (List (List Int))
 | [.rule rs]=>some rs
 | _=>none
section
variable {z:Addr}{H:Hp}{ds:List Wd}{ys:List V}
theorem Mb {k:Nat} (h:Iq ds=some k) (hw:qf z H ds ys):ys=[.int (k:Int)]:=by
 unfold Iq at h
 split at h
 ·cases h
  obtain⟨v,vs,ey,hv,hvs⟩:=hw
  rw[ey,show vs=[] from hvs,show v=.int _ from hv]
 ·cases h
theorem KQ {rs:List (List Int)}{k:Nat} (h:Hn ds=some (rs,k)) (hw:qf z H ds ys):∃v,ys=[v,.int (k:Int)]/\Dt z H (DR rs) v/\tU (DR rs):=by
 unfold Hn at h
 split at h
 ·cases h
  obtain⟨v,vs,ey,⟨hv,ho⟩,x,xs,ex,hx,hxs⟩:=hw
  exact⟨v,by rw[ey,ex,show xs=[] from hxs,show x=.int _ from hx],hv,ho⟩
 ·cases h
theorem KP {rs:List (List Int)} (h:GZ ds=some rs) (hw:qf z H ds ys):∃v,ys=[v]/\Dt z H (DR rs) v/\tU (DR rs):=by
 unfold GZ at h
 split at h
 ·cases h
  obtain⟨v,vs,ey,⟨hv,ho⟩,hvs⟩:=hw
  exact⟨v,by rw[ey,show vs=[] from hvs],hv,ho⟩
 ·cases h
end
noncomputable def ai (ns:List Int) (a:Str) (ds:List Wd):gs :=
 if a="show" then .tx (nT ns)
 else if a="chance" then (match Iq ds with
  | some k=>if k<ns.length then .tx (fS (Mt.fZ ns k)) else .no 2
  | none=>.any)
 else if a="stands" ∨ a="mean" then (match Hn ds with
  | some (rs,k)=>if K8 (ns.length:Int) (DR rs)=false then .no 1 else if 6<k then .no 5 else if (je rs k [(ns,1)]).length<64 then .tx (if a="stands" then tx ((je rs k [(ns,1)]).length:Int) else D7 " " ((uL rs ns k ns.length).map fS)) else .any
  | none=>.any)
 else (match GZ ds with
  | some rs=>if K8 (ns.length:Int) (DR rs)=false then .no 1 else .tx (if gY rs ns 1 ns.length=gY rs ns 0 ns.length then "yes" else "no")
  | none=>.any)
noncomputable def Res (ec:Nat->Addr) (H:Hp) (Q:VK) (E:XK) (B:Str->List Int->Prop):gs->Prop
 | .no i=>∀H',n8 H H'->E (.ref (ec i)) none H'
 | .tx t=>∀H',n8 H H'->Q (.str t) H'
 | .put x ns=>B x ns
 | .any=>False
theorem LG {T:Q2}{φ:List Int->Rat}{N E M C:Nat} (hφ:∀p∈T,Vq M C (φ p.1)) (hE:fe N E T):Vq (M*N) (C*E*T.length) (mj T φ):=by
 rw[lg]
 have:=sC (N:=M*N) (B:=C*E) (xs:=T.map fun p=>φ p.1*p.2) (fun x hx=>by
  obtain⟨p,hp,e⟩:=List.mem_map.mp hx
  rw[<- e];exact(hφ p hp).mul (hE p hp))
 rw[d8] at this;exact this
theorem e84 {k:Nat} (k6:k<=6):4 ^ (k*k)*4 ^ k<=2 ^ 84:=by
 have h1:k*k<=6*6:=F5 k6 k6
 rw[<- N8]
 exact j9 (B9 (n:=4) (by decide) (show k*k+k<=42 by lia)) (by decide)
variable {n:Nat}
theorem OC {k j:Nat}{rs:List (List Int)}(hR:Mt.kB n 5 rs) (n4:n<=4) (hU:Mt.gx n 20 ns) (k6:k<=6):∀p∈je rs k [(ns,1)],Vq 1 64 (we p.1 j):=fun p hp=>by
 obtain⟨w1,w2,w3,w4⟩:=mY hR n4 hU k k6
 have hg:=(w1 p hp).getD j
 exact Fm (B:=64) hg.1 (by lia)
theorem Fd {q:Rat} (h0:0<=q.num) (h1:q.num<10 ^ 574) (h2:(q.den:Int)<10 ^ 574):(fS q).length<=1149:=by
 have a:=lK h0 h1
 have b:=lK (au q.den) h2
 unfold fS fT
 split
 ·lia
 ·show ((tx q.num).cps++(("/":Str).cps++(tx (q.den:Int)).cps)).size<=1149
  rw[Gn,Gn]
  have c:("/":Str).cps.size=1:=js
  have a':(tx q.num).cps.size<=574:=a
  have b':(tx (q.den:Int)).cps.size<=574:=b
  lia
def Wr (q:Rat):Prop:=0<=q.num/\q.num<10 ^ 574/\(q.den:Int)<10 ^ 574
theorem Nw {x:Rat} (h0:0<=x.num) (hb:Bd n x) (h:(2:Int) ^ n<10 ^ 574):Wr x:=by
 have a:=hb.num
 have b:=hb.den
 refine⟨h0,?_,?_⟩
 ·exact S1 (by have:((x.num.natAbs:Nat):Int)<=((2 ^ n:Nat):Int):=Int.ofNat_le.mpr a;rw[Cv h0,MK] at this;exact this) h
 ·exact S1 (by have:((x.den:Nat):Int)<=((2 ^ n:Nat):Int):=Int.ofNat_le.mpr b;rw[MK] at this;exact this) h
theorem Jr {k:Nat}{rs:List (List Int)}(hR:Mt.kB n 5 rs) (n4:n<=4) (hU:Mt.gx n 20 ns) (k6:k<=6):∀x∈uL rs ns k n,Wr x:=fun x hx=>by
 obtain⟨w1,w2,w3,w4⟩:=mY hR n4 hU k k6
 obtain⟨i,hi,e⟩:=List.mem_map.mp hx
 have hv:Vq (1*LL ^ k) (64*4 ^ (k*k)*(je rs k [(ns,1)]).length) x:=by rw[<- e];exact LG (OC hR n4 hU k6) w3
 have hN:1*LL ^ k<=2 ^ 1800:=by rw[Cn];exact j9 (uw k) (B9 (by decide) (by lia))
 have hB:64*4 ^ (k*k)*(je rs k [(ns,1)]).length<=2 ^ 90:=by
  have:(2:Nat) ^ 90=64*2 ^ 84:=by rw[show (64:Nat)=2 ^ 6 from rfl,<- N8]
  rw[Pl,this]
  exact Q7 _ (j9 (Q7 _ w4) (e84 k6))
 have hb:Bd 1890 x:=hv.bd (ij (by decide) (og k)) (by
  have:(2:Nat) ^ 1890=2 ^ 1800*2 ^ 90:=by rw[<- N8]
  rw[this];exact F5 hN hB) (j9 hN (B9 (by decide) (by decide)))
 have big:(2:Int) ^ 1890<10 ^ 574:=by decide+kernel
 exact Nw (Rat.num_nonneg.mpr hv.nn) hb big
theorem Jq {a b:Str} (h:a≠b):decide (V.str a=V.str b)=false:=decide_eq_false fun z=>h (by injection z)
theorem JR {a b:Str} (h:a=b):decide (V.str a=V.str b)=true:=decide_eq_true (by rw[h])
section
variable {P:i8}{w:t9}{K:j7}{mg:Str->Option b9}{base:Heap}{f:Addr}{fd:A9}{ec:Nat->Addr}{Bs dl C:Addr}{fL:Str->Option b9}
def xC (ec:Nat->Addr):Sp:=fun vs H Q E=>∃(st u pl:Addr) (ns:List Int) (a:Str) (ys:List V) (ds:List Wd),vs=[.str a,.ref u,.ref pl]/\H pl=some (.lst ys)/\qf st H ds ys/\Dt st H (DI ns) (.ref u)/\Q5 20 (DI ns)=true/\Res ec H Q E (fun _ _=>False) (ai ns a ds)
abbrev DG:Stmt:=top 66
theorem Ky:B1 ["asked","urn","others"] ["asked","urn","others"] (r6 DG):=⟨rfl,rfl,rfl,by decide+kernel,rfl,by decide+kernel,by decide+kernel⟩
theorem LD (F:Y3 K "answer" "answer" DG f fd) (B:Bt mg) (B2:Gv mg) (c1:S6 P w K mg base 6 "urn_text" ["urn"] CP) (c2:S6 P w K mg base 1 "fraction_text" ["fraction"] jQ) (c3:O9 P w K mg base 6 "chance" ["urn","kind"] (fY ec))
  (c4:O9 P w K mg base 7 "stands" ["urn","rule","draws"] (rh ec)) (c5:O9 P w K mg base 8 "mean" ["urn","rule","draws"] (zh ec)) (c6:O9 P w K mg base 9 "is_fair" ["urn","rule"] (nQ ec)):G7 P w K mg base (cj P w) 10 f fd ["asked","urn","others"] (xC ec):=by
 refine F.okX Ky (fun vs H Q E h=>?_) (fun cdv A outer s H vs Q E hr h=>?_)
 ·obtain⟨st,u,pl,ns,a,ys,ds,rfl,_⟩:=h
  rfl
 refine⟨_,(@j5 _ _ _ _ _ (K4 (@E4 _ _ _ _ _ _ _ _ Z0 (pv 0) D0 (G0 _)) (@n6 _ _ _ (A5 (B0 (c1.up (by decide)) hr rfl (@b8 _ _ _ _ _ (pv 1) f7 (by rfl))))) D4)
  (@j5 _ _ _ _ _ (K4 (@E4 _ _ _ _ _ _ _ _ Z0 (pv 0) D0 (G0 _)) (@n6 _ _ _ (A5 (B0 (c2.up (by decide)) hr rfl (@b8 _ _ _ _ _ (G1 (c3.up (by decide)) hr rfl K0 (@b8 _ _ _ _ _ (pv 1) (@b8 _ _ _ _ _ (@K5 _ _ _ _ _ _ _ K1 (pv 2) t8 (fun _ _=>rfl)) f7 (by rfl)) (by rfl))) f7 (by rfl))))) D4)
  (@j5 _ _ _ _ _ (K4 (@E4 _ _ _ _ _ _ _ _ Z0 (pv 0) D0 (G0 _)) (@n6 _ _ _ (A5 (D9 N5 rfl B2.str aM (@b8 _ _ _ _ _ (A1 E2 rfl B.len C9 (@b8 _ _ _ _ _ (G1 (c4.up (by decide)) hr rfl K0 (@b8 _ _ _ _ _ (pv 1) (@b8 _ _ _ _ _ (@K5 _ _ _ _ _ _ _ K1 (pv 2) t8 (fun _ _=>rfl)) (@b8 _ _ _ _ _ (@K5 _ _ _ _ _ _ _ K1 (pv 2) t8 (fun _ _=>rfl)) f7 (by rfl)) (by rfl)) (by rfl))) f7 (by rfl))) f7 (by rfl))))) D4)
  (@j5 _ _ _ _ _ (K4 (@E4 _ _ _ _ _ _ _ _ Z0 (pv 0) D0 (G0 _)) (@n6 _ _ _ (A5 (cZ D2 L7 L6 dR D0 (@b8 _ _ _ _ _ (O1 (N:=["middle"]) (ix:=[none]) (ifs:=[]) (tc:=T5) rfl (jV (G1 (c5.up (by decide)) hr rfl K0 (@b8 _ _ _ _ _ (pv 1) (@b8 _ _ _ _ _ (@K5 _ _ _ _ _ _ _ K1 (pv 2) t8 (fun _ _=>rfl)) (@b8 _ _ _ _ _ (@K5 _ _ _ _ _ _ _ K1 (pv 2) t8 (fun _ _=>rfl)) f7 (by rfl)) (by rfl)) (by rfl))))
   (fun s H ex=>bz (i:=0) (by decide+kernel) rfl (A4 rfl) (.inr rfl)) (fun s H ex=>L8) (fun s H ex=>(B0 (c2.up (by decide)) hr rfl (@b8 _ _ _ _ _ (pv 0) f7 (by rfl)))) rfl (by decide+kernel) (by rfl) (by rfl) (fun _=>rfl)) f7 (by rfl))))) D4)
  (@n6 _ _ _ (A5 (oZ (az (G1 c6 hr rfl K0 (@b8 _ _ _ _ _ (pv 1) (@b8 _ _ _ _ _ (@K5 _ _ _ _ _ _ _ K1 (pv 2) t8 (fun _ _=>rfl)) f7 (by rfl)) (by rfl)))) D0 D0))))))),?_⟩
 obtain⟨st,u,pl,ns,a,ys,ds,rfl,hp,hw,hd,hu,q⟩:=h
 obtain⟨hU,n1,n4⟩:=ax hu
 have i0:∀(v:V) r,rV (v::r) 0=some v:=fun v r=>F6 (j:=0) rfl
 have i1:∀(v x:V) r,rV (v::x::r) 1=some x:=fun v x r=>F6 (j:=1) rfl
 have hl:bI (DI ns)=ns.length:=V0 ns
 have hsh:cq (DI ns):=W0 (by lia)
 unfold ai at q
 refine⟨_,rfl,rfl,_,rfl,?_⟩
 by_cases e1:a="show"
 ·rw[if_pos e1] at q
  rw[JR e1]
  exact O2 ⟨_,rfl,st,u,ns,ns.length,rfl,hd,hU,n1,n4,q⟩
 rw[if_neg e1] at q
 rw[Jq e1]
 refine N3 ⟨_,rfl,rfl,_,rfl,?_⟩
 by_cases e2:a="chance"
 ·rw[if_pos e2] at q
  rw[JR e2]
  cases hf:Iq ds with
  | none=>rw[hf] at q;exact q.elim
  | some k =>
   have ey:=Mb hf hw
   subst ey
   rw[hf] at q
   dsimp only at q
   by_cases hk:k<ns.length
   ·rw[if_pos hk] at q
    have hs:ns.sum<10 ^ 574:=by
     have:=Mt.sum_le (m:=20) (fun x hx=>(hU.nn x hx).2)
     rw[hU.len] at this
     lia
    have hb:=FJ (N:=10 ^ 574) (hU.getD k).1 hU.pos (S1 (hU.getD k).2 (by decide)) hs
    exact O2 ⟨_,rfl,_,rfl,pl,_,0,_,rfl,rfl,.of hp,i0 _ _,.inr ⟨st,u,ns.length,k,ns,rfl,hd,hU,n1,n4,hk,fun p H1 g1 h1=>⟨p,_,_,rfl,h1,hb.1,hb.2.1,hb.2.2.1,hb.2.2.2,fun H2 g2=>q H2 (g1.trans g2)⟩⟩⟩
   ·rw[if_neg hk] at q
    refine O2 ⟨_,rfl,_,rfl,pl,_,0,_,rfl,rfl,.of hp,i0 _ _,.inl ⟨st,_,_,DI ns,.int k,2,rfl,hd,hsh,Dt.int _ _ _,.inr ⟨rfl,hu,?_⟩,q⟩⟩
    rw[hl]
    show (decide ((0:Int)<=k)&&decide ((k:Int)<=(ns.length:Int) - 1))=false
    rw[decide_eq_false (p:=(k:Int)<=(ns.length:Int) - 1) (by lia),aU]
 rw[if_neg e2] at q
 rw[Jq e2]
 refine N3 ⟨_,rfl,rfl,_,rfl,?_⟩
 by_cases e34:a="stands" ∨ a="mean"
 ·rw[if_pos e34] at q
  cases hf:Hn ds with
  | none=>rw[hf] at q;exact q.elim
  | some rk =>
   obtain⟨rs,k⟩:=rk
   obtain⟨v,ey,hv,ho⟩:=KQ hf hw
   subst ey
   rw[hf] at q
   dsimp only at q
   have ASK:(∃i,FY (DI ns) (DR rs) (.int (k:Nat)) i/\∀H',n8 H H'->E (.ref (ec i)) none H') ∨ (BO st H ns.length ns rs k u v/\∀H',n8 H H'->Q (.str (if a="stands" then tx ((je rs k [(ns,1)]).length:Int) else D7 " " ((uL rs ns k ns.length).map fS))) H'):=by
    by_cases hr:K8 (ns.length:Int) (DR rs)=false
    ·rw[if_pos hr] at q
     exact .inl ⟨1,.inr (.inl ⟨rfl,hu,by rw[hl];exact hr⟩),q⟩
    ·rw[if_neg hr] at q
     have hr1:K8 (ns.length:Int) (DR rs)=true:=by simpa using hr
     by_cases h6:6<k
     ·rw[if_pos h6] at q
      refine .inl ⟨5,.inr (.inr ⟨rfl,hu,by rw[hl];exact hr1,?_⟩),q⟩
      show (decide ((0:Int)<=k)&&decide ((k:Int)<=6))=false
      rw[decide_eq_false (p:=(k:Int)<=6) (by lia),aU]
     ·rw[if_neg h6] at q
      by_cases h64:(je rs k [(ns,1)]).length<64
      ·rw[if_pos h64] at q
       exact .inr ⟨⟨hd,hU,hv,aH hr1,n1,n4,by lia,h64⟩,q⟩
      ·rw[if_neg h64] at q
       exact q.elim
   by_cases e3:a="stands"
   ·rw[JR e3]
    refine O2 ⟨_,rfl,_,rfl,pl,_,0,_,rfl,rfl,.of hp,i0 _ _,_,rfl,pl,_,1,_,rfl,rfl,.of hp,i1 _ _ _,?_⟩
    rcases ASK with ⟨i,due,q⟩|⟨hA,q⟩
    ·exact .inl ⟨st,_,_,_,DI ns,DR rs,.int k,i,rfl,hd,hsh,hv,ho,Dt.int _ _ _,due,q⟩
    ·rw[if_pos e3] at q
     refine .inr ⟨st,u,v,_,k,ns,rs,rfl,hA,fun D zs T' H1 g1 hT hD hB=>?_⟩
     have hzl:zs.length=(je rs k [(ns,1)]).length:=by rw[<- hT.length_eq];exact hB.len
     refine⟨D,_,rfl,.inl (.of hD),_,rfl,?_⟩
     rw[hzl]
     exact⟨mT (au _) (S1 (Int.ofNat_le.mpr (aq hA.l64)) (by decide+kernel)),q H1 g1⟩
   ·have e4:a="mean":=e34.elim (fun z=>absurd z e3) id
    rw[Jq e3]
    refine N3 ⟨_,rfl,rfl,_,rfl,?_⟩
    rw[JR e4]
    refine O2 ⟨rfl,_,rfl,_,rfl,pl,_,0,_,rfl,rfl,.of hp,i0 _ _,_,rfl,pl,_,1,_,rfl,rfl,.of hp,i1 _ _ _,?_⟩
    rcases ASK with ⟨i,due,q⟩|⟨hA,q⟩
    ·exact .inl ⟨st,_,_,_,DI ns,DR rs,.int k,i,rfl,hd,hsh,hv,ho,Dt.int _ _ _,due,q⟩
    ·rw[if_neg e3] at q
     refine .inr ⟨st,u,v,_,k,ns,rs,rfl,hA,fun p xs H1 g1 hx hF=>⟨p,rfl,⟨_,.of hx⟩,?_⟩⟩
     have hw:=Jr hA.ru hA.n4 hA.uu hA.k6
     have hxl:=hF.len
     have hml:(uL rs ns k ns.length).length=ns.length:=by unfold uL;rw[d8,aF]
     generalize uL rs ns k ns.length=qs at hw hF hxl hml q
     refine ic (K:=K) (a:=p) (xs:=xs) (sz (by lia)) (fun j ys H2=>n8 H1 H2/\ys=((qs.take j).map fS).map V.str/\ys.length=j) ⟨n8.refl _,rfl,rfl⟩ (fun j ys H2 h=>h.2.2) (fun j ys H2 _ h=>.of (h.1 _ _ hx)) rfl (fun j ys H2 z hz h=>?_) (fun ys H2 h=>?_)
     ·obtain⟨g2,hy,hyl⟩:=h
      obtain⟨x,hx',r,er,hr'⟩:=hF.get hz
      subst er
      obtain⟨w0,w1,w2⟩:=hw x (y8 hx')
      refine⟨_,rfl,r,x.num,x.den,rfl,g2 _ _ hr',w0,w1,au _,w2,fun H3 g3=>⟨g2.trans g3,?_,by rw[y6,hyl];rfl⟩⟩
      rw[hy,D1,hx',w5,w5]
      rfl
     ·obtain⟨g2,hy,hyl⟩:=h
      rw[hxl,J4 (i9 _)] at hy
      subst hy
      intro pj hpj
      have hsl:=aW (m:=1149) (ys:=qs.map fS) fun z hz=>by
       obtain⟨x,hx',e⟩:=List.mem_map.mp hz
       obtain⟨w0,w1,w2⟩:=hw x hx'
       rw[<- e];exact Fd w0 w1 w2
      rw[d8] at hsl
      refine⟨_,pj,qs.map fS,rfl,rfl,.of j0,?_,q _ ((g1.trans g2).trans (n8.new hpj))⟩
      rw[d8]
      have:(" ":Str).length=1:=by decide+kernel
      rw[this]
      lia
 rw[if_neg e34] at q
 rw[Jq (fun z=>e34 (.inl z))]
 refine N3 ⟨_,rfl,rfl,_,rfl,?_⟩
 rw[Jq (fun z=>e34 (.inr z))]
 refine N3 ?_
 cases hf:GZ ds with
 | none=>rw[hf] at q;exact q.elim
 | some rs =>
  obtain⟨v,ey,hv,ho⟩:=KP hf hw
  subst ey
  rw[hf] at q
  dsimp only at q
  refine⟨_,rfl,_,rfl,pl,_,0,_,rfl,rfl,.of hp,i0 _ _,?_⟩
  by_cases hr:K8 (ns.length:Int) (DR rs)=false
  ·rw[if_pos hr] at q
   exact .inl ⟨st,_,_,DI ns,DR rs,1,rfl,hd,hsh,hv,ho,.inr ⟨rfl,hu,by rw[hl];exact hr⟩,q⟩
  ·rw[if_neg hr] at q
   refine .inr ⟨st,u,v,_,ns,rs,rfl,⟨hd,hU,hv,aH (by simpa using hr),n1,n4⟩,fun H1 g1=>⟨_,rfl,?_⟩⟩
   by_cases e:gY rs ns 1 ns.length=gY rs ns 0 ns.length
   ·rw[decide_eq_true e]
    rw[if_pos e] at q
    exact O2 (q H1 g1)
   ·rw[decide_eq_false e]
    rw[if_neg e] at q
    exact N3 (q H1 g1)
def sL (C:Addr):Sp:=fun vs H Q _=>∃d dx,vs=[.ref d]/\H d=some (.ins C dx [])/\∀m,H m=none->Q .non (A6 (A6 H m (.dK [])) d (.ins C dx [("urns_by_name",.ref m)]))
abbrev xO:Stmt:=Pt 0
theorem GV:B1 ["self"] ["self"] (r6 xO):=⟨rfl,rfl,rfl,by decide+kernel,rfl,by decide+kernel,by decide+kernel⟩
theorem HN (F:Y3 K "__init__" "Desk.__init__" xO f fd) (D:rX K C):G7 P w K mg base cQ 1 f fd ["self"] (sL C):=by
 refine F.ok GV (fun vs H Q E h=>?_) (fun cdv A outer s H vs Q E hr h=>?_)
 ·obtain⟨d,dx,rfl,_⟩:=h
  rfl
 obtain⟨d,dx,rfl,hd,q⟩:=h
 refine⟨_,n6 (Ld (pv 0) zD rfl),?_⟩
 intro m hm
 refine⟨_,rfl,d,C,dx,[],rfl,?_,D.cls,D.na,by decide,q m hm⟩
 rw[v9 (u9 hd hm)];exact hd
def xo (C:Addr) (ec:Nat->Addr):Sp:=fun vs H Q E=>∃d m kvs x,vs=[.ref d,.str x]/\Ga C H d m kvs/\(∀v,eD kvs (C8 x)=some v->Q v H)/\(eD kvs (C8 x)=none->∀H',n8 H H'->E (.ref (ec 0)) none H')
abbrev Ds:Stmt:=Pt 2
theorem Kq:B1 ["self","name"] ["self","name"] (r6 Ds):=⟨rfl,rfl,rfl,by decide+kernel,rfl,by decide+kernel,by decide+kernel⟩
theorem Ll (F:Y3 K "urn_by_name" "Desk.urn_by_name" Ds f fd) (D:rX K C) (R:jA K mg ec Bs):G7 P w K mg base (cj P w) 1 f fd ["self","name"] (xo C ec):=by
 refine F.okX Kq (fun vs H Q E h=>?_) (fun cdv A outer s H vs Q E hr h=>?_)
 ·obtain⟨d,m,kvs,x,rfl,_⟩:=h
  rfl
 obtain⟨d,m,kvs,x,rfl,⟨dx,hd,hm⟩,q1,q0⟩:=h
 refine⟨_,j5 (K4 (xU (AU (fq hr) (pv 1) (tP (pv 0) rfl)) (by rfl)) (n6 (U0 R.e0 (R.xc 0 (by decide)) D0 (fun σ H Q Q' m q=>m _ _ q))) D4)
  (n6 (A5 (gS (fq hr) (tP (pv 0) rfl) (pv 1) (fun _ _=>rfl)))),?_⟩
 have hg:cG H m (.str x) (eD kvs (C8 x)):=cG.k (k:=C8 x) hm
 cases hv:eD kvs (C8 x) with
 | some v =>
  rw[hv] at hg
  refine⟨_,rfl,_,rfl,d,C,dx,_,_,rfl,hd,D.cls,D.na,rfl,m,_,rfl,hg,_,rfl,?_⟩
  exact N3 ⟨_,rfl,d,C,dx,_,_,rfl,hd,D.cls,D.na,rfl,_,rfl,m,v,rfl,hg,q1 v hv⟩
 | none =>
  rw[hv] at hg
  refine⟨_,rfl,_,rfl,d,C,dx,_,_,rfl,hd,D.cls,D.na,rfl,m,_,rfl,hg,_,rfl,?_⟩
  exact O2 (q0 hv H (n8.refl H))
def sJ (C:Addr):Sp:=fun vs H Q _=>∃(d m:Addr) (kvs:List (O4 × V)) (x:Str) (a st:Addr) (ns:List Int),vs=[.ref d,.str x,.ref a]/\Ga C H d m kvs/\kvs.length<=100/\Dt st H (DI ns) (.ref a)/\ns.length<=4 /\
 (Q5 20 (DI ns)=true->∀H',n8 H H'->Q (.str "ok") (A6 H' m (.dK (putK kvs (C8 x) (.ref a)))))/\(Q5 20 (DI ns)=false->∀H',n8 H H'->Q (.str "full") H')
abbrev xN:Stmt:=Pt 3
theorem GU:B1 ["self","name","urn"] ["self","name","urn"] (r6 xN):=⟨rfl,rfl,rfl,by decide+kernel,rfl,by decide+kernel,by decide+kernel⟩
theorem HM (F:Y3 K "keep" "Desk.keep" xN f fd) (D:rX K C) (c1:S6 P w K mg base 4 "is_urn" ["thing"] fX):G7 P w K mg base cQ 5 f fd ["self","name","urn"] (sJ C):=by
 refine F.ok GU (fun vs H Q E h=>?_) (fun cdv A outer s H vs Q E hr h=>?_)
 ·obtain⟨d,m,kvs,x,a,st,ns,rfl,_⟩:=h
  rfl
 obtain⟨d,m,kvs,x,a,st,ns,rfl,⟨dx,hd,hm⟩,hk,ha,hl,q1,q0⟩:=h
 refine⟨_,j5 (K4 (cB (az (B0 c1 hr rfl (b8 (pv 2) f7)))) (n6 (A5 D0)) D4)
  (j5 (tF (fq hr) (tP (pv 0) rfl) (pv 1) (pv 2) rfl) (n6 (A5 D0))),?_⟩
 refine⟨_,rfl,_,st,_,rfl,ha,W0 (by lia),fun H1 g1=>⟨_,rfl,?_⟩⟩
 cases hu:Q5 20 (DI ns) with
 | true=>exact N3 ⟨_,rfl,_,rfl,d,C,dx,_,_,rfl,g1 _ _ hd,D.cls,D.na,rfl,_,rfl,m,_,rfl,uz.k (k:=C8 x) (g1 _ _ hm) (jo (by lia)),q1 hu H1 g1⟩
 | false=>exact O2 (q0 hu H1 g1)
end
end G
namespace L2
open PySem PySem.Spec PyProof.Rows HT
def yM (ks ms:List Str):Prop:=(ks.length<2/\ms=ks) ∨ 2<=ks.length/\∃p:Array Nat,Rc (fun i j b=>b=ltS (ks.getD i "") (ks.getD j "")) (gy ks.length) p/\ms=p.toList.map fun i=>ks.getD i ""
theorem yM.uniq {ks ms ns:List Str} (h1:yM ks ms) (h2:yM ks ns):ms=ns:=by
 rcases h1 with ⟨l1,e1⟩|⟨l1,p,r1,e1⟩ <;> rcases h2 with ⟨l2,e2⟩|⟨l2,p2,r2,e2⟩
 ·rw[e1,e2]
 ·lia
 ·lia
 ·rw[e1,e2,Rc.uniq (fun _ _ _ _ a b=>a.trans b.symm) r1 r2]
open Classical in
noncomputable def sG (ks:List Str):List Str:=if h:∃ms,yM ks ms then choose h else []
theorem sF {ks ms:List Str} (h:yM ks ms):ms=sG ks:=by
 unfold sG
 have z:∃ms,yM ks ms:=⟨ms,h⟩
 rw[dif_pos z]
 exact h.uniq (Classical.choose_spec z)
section
variable {X:Cx}{H:Hp}
noncomputable def KZ:List V->Hp->VK->Prop:=fun xs H Q=>∃(p:Addr) (kvs:List (O4 × V)) (ks:List Str),xs=[.ref p]/\H p=some (.dK kvs)/\kvs.map (·.1)=ks.map C8/\ks.length<64 /\
 ∀(D:Addr) (ms:List Str) (H':Hp),ms.Perm ks->yM ks ms->n8 H H'->H' D=some (.lst (ms.map V.str))->Q (.ref D) H'
theorem kq (hc:X.calm=true):bB X (.builtin "sorted") KZ:=by
 intro pins s σ H xs us Q I rr h
 obtain⟨p,kvs,ks,rfl,hp,hks,h64,q⟩:=h
 cases rr with
 | cons r1 rr =>
  cases rr
  cases r1
  obtain⟨hz,lo,vs,kv,hm⟩:=(show P2 X.prog X.w H s.heap p (.dK kvs) from I.hok p _ hp)
  obtain⟨ep,hm⟩:=hm.dictAt
  have hvl:=LH kv
  have hf:=LI kv
  have hkl:kvs.length=ks.length:=by have:=congrArg BX hks;rwa [d8,d8] at this
  refine uJ kind_sorted plain_sorted entry_sorted (args_sorted1 _) ?_
  unfold gF.«sorted»
  refine b7 (m:=checkCount "sorted" 1 1 _) (g0 ?_)
  refine b7 (vY (by exact I.ok.hd hc) lo hm (by lia) fun its h' tk hil hit hsz k1=>?_)
  have hstr:∀v∈its,∃x t,v=aV x t:=fun v hv=>by
   obtain⟨j,hj⟩:=List.getElem?_of_mem hv
   obtain⟨k,x,e1,e2⟩:=hit j v hj
   have e3:(ks.map (C8:Str->O4))[j]?=some k:=by rw[<- hks,hf,v8,e1];rfl
   rw[v8] at e3
   obtain⟨y,_,ey⟩:=Option.map_eq_some_iff.mp e3
   rw[<- ey] at e2
   obtain⟨t,e⟩:=bp (x:=y) (v:=v) e2
   exact⟨y,t,e⟩
  have hsm:its.map Pe=ks:=by
   refine cL fun j=>?_
   rw[v8]
   cases hj:its[j]? with
   | none =>
    have:its.length<=j:=List.getElem?_eq_none_iff.mp hj
    rw[V9 (by lia)];rfl
   | some v =>
    obtain⟨k,x,e1,e2⟩:=hit j v hj
    have e3:(ks.map (C8:Str->O4))[j]?=some k:=by rw[<- hks,hf,v8,e1];rfl
    rw[v8] at e3
    obtain⟨y,hy,ey⟩:=Option.map_eq_some_iff.mp e3
    rw[<- ey] at e2
    obtain⟨t,e⟩:=bp (x:=y) (v:=v) e2
    rw[hy,e];rfl
  refine b7 (qj ?_ (by rw[X0];lia))
  have hB:(h'.push (aD "list" its.toArray 0)).get? h'.objs.size=some (aD "list" its.toArray 0):=j8 _ rfl
  have k2:∀b o,s.heap.get? b=some o->(h'.push (aD "list" its.toArray 0)).get? b=some o:=fun b o e=>d9 _ (k1 b o e)
  have lt1:∀b o,s.heap.get? b=some o->b≠h'.objs.size:=fun b o e=>m9 (i5 (k1 b o e))
  show j6 _ _ _ _ _ { s with heap:=h'.push (aD "list" its.toArray 0),toks:=tk }
  refine b7 (F0 (J7 slot_list_sort ⟨_,hB,rfl⟩ entry_list_sort ?body (args_list_sort _)))
  have hgd:∀i,i<its.length->ks.getD i ""=Pe (its.getD i A3):=fun i hi=>by
   rw[<- hsm,E9,E9,v8,i6 hi];rfl
  refine rj (An:=fun i j b=>b=ltS (ks.getD i "") (ks.getD j "")) (s:={ s with heap:=h'.push (aD "list" its.toArray 0),toks:=tk }) (vs:=its) hB (by lia) (fun h2 h1 kp=>?_) (fun h5 vs' c' hpm hup kp hB5=>?_)
  ·obtain⟨v1,v2,V3,e⟩:∃v1 v2 V3,its=v1::v2::V3:=by
    match its,h2 with
    | v1::v2::V3,_=>exact⟨v1,v2,V3,rfl⟩
    | [_],h=>simp at h
    | [],h=>simp at h
   have hk:=keyKind_strs (v₁:=v1) (v₂:=v2) (vs:=V3) (ss:=(v1::v2::V3).map Pe) (strsAre_map _ (by rw[<- e];exact hstr))
   rw[<- e] at hk
   rw[hk]
   refine g0 ⟨rfl,fun i j C hi hj hQ=>?_⟩
   have hQ:=hQ _ rfl
   rw[hgd i hi,hgd j hj] at hQ
   have gm:∀i,i<its.length->its.getD i A3∈its:=fun i hi=>by
    rw[E9,i6 hi];exact O0 hi
   unfold sk
   obtain⟨x,t,ex⟩:=hstr _ (gm i hi)
   obtain⟨y,u,ey⟩:=hstr _ (gm j hj)
   rw[ex,ey] at hQ ⊢
   rw[keyLt'_oneType]
   exact oneLt_str hQ
  ·refine⟨_,rfl,g0 ⟨_,rfl,?_⟩⟩
   have hstr':∀v∈vs',∃i t,v=aV i t:=fun v hv=>hstr v (hpm.mem_iff.mp hv)
   have k5:∀b o,s.heap.get? b=some o->h5.get? b=some o:=fun b o e=>kp b o (lt1 b o e) (k2 b o e)
   have J:=I.lays (N:=fun b=>if b=h'.objs.size then some (.lst ((vs'.map Pe).map V.str)) else none) (h':=h5) (t':=tk) k5 (fun b o hb e=>?_)
   ·refine⟨.ref h'.objs.size,_,J,rfl,q _ (vs'.map Pe) _ ?_ ?_ (fun b o e=>?_) ?_⟩
    ·rw[<- hsm];exact hpm.map _
    ·rcases hup with ⟨h1,rfl⟩|⟨h2,p,hp,hr,rfl⟩
     ·exact .inl ⟨by lia,hsm⟩
     ·refine .inr ⟨by lia,p,by rw[<- hkl,hvl,<- hil];exact hr,?_⟩
      rw[cJ]
      exact List.map_congr_left fun i hi=>(hgd i (List.mem_range.mp (hp.mem_iff.mp hi))).symm
    ·show (if b<s.heap.objs.size then H b else _)=some o
     rw[if_pos (I.hok.lt e)];exact e
    ·show (if h'.objs.size<s.heap.objs.size then H h'.objs.size else (if h'.objs.size=h'.objs.size then _ else _))=_
     rw[if_neg (Nat.not_lt_of_lt hsz),if_pos rfl]
   ·by_cases hbB:b=h'.objs.size
    ·rw[if_pos hbB] at e
     cases e
     refine⟨?_,vs',c',qU hstr',?_⟩
     ·rw[d8,d8,hpm.length_eq,X0];lia
     ·rw[hbB,hB5]
    ·rw[if_neg hbB] at e
     cases e
end
end L2
namespace G
open PySem PySem.Spec PyProof.Rows L2 Mt
noncomputable def Cc (U:List (Str × List Int)) (x:Str):Option (List Int):=(U.find? fun r=>decide (r.1=x)).map (·.2)
noncomputable def zJ:List Wd->Option (Str × List Wd)
 | .name x::r=>some (x,r)
 | _=>none
noncomputable def CG:List Wd->Option (List Int)
 | [.urn ns]=>some ns
 | _=>none
noncomputable def zS:List Wd->Option (List (List Int) × Nat × Str)
 | [.rule rs,.fig k,.name y]=>some (rs,k,y)
 | _=>none
section
variable {z:Addr}{H:Hp}{ds:List Wd}{ys:List V}
theorem HR {x:Str}{r:List Wd} (h:zJ ds=some (x,r)) (hw:qf z H ds ys):∃vs,ys=.str x::vs/\qf z H r vs:=by
 unfold zJ at h
 split at h
 ·cases h
  obtain⟨v,vs,ey,hv,hvs⟩:=hw
  exact⟨vs,by rw[ey,show v=.str _ from hv],hvs⟩
 ·cases h
theorem JT {ns:List Int} (h:CG ds=some ns) (hw:qf z H ds ys):∃b,ys=[.ref b]/\H b=some (.tup (ns.map V.int)):=by
 unfold CG at h
 split at h
 ·cases h
  obtain⟨v,vs,ey,⟨b,eb,hb⟩,hvs⟩:=hw
  exact⟨b,by rw[ey,show vs=[] from hvs,eb],hb⟩
 ·cases h
theorem IB {rs:List (List Int)}{k:Nat}{y:Str} (h:zS ds=some (rs,k,y)) (hw:qf z H ds ys):∃v,ys=[v,.int (k:Int),.str y]/\Dt z H (DR rs) v/\tU (DR rs):=by
 unfold zS at h
 split at h
 ·cases h
  obtain⟨v,_,e2,⟨hv,ho⟩,v3,_,e3,hv3,v4,us,e4,hv4,hus⟩:=hw
  exact⟨v,by rw[e2,e3,e4,show us=[] from hus,show v4=.str _ from hv4,show v3=.int _ from hv3],hv,ho⟩
 ·cases h
end
noncomputable def iL (U:List (Str × List Int)) (a:Str) (ds:List Wd):gs :=
 if a="kept" then .tx (D7 " " (sG (U.map (·.1))))
 else match zJ ds with
  | some (x,r) =>
   if a="urn" then (match CG r with
    | some ns=>if Q5 20 (DI ns)=true then .put x ns else .any
    | none=>.any)
   else match Cc U x with
    | none=>.no 0
    | some ns =>
     if a="draw" then (match zS r with
      | some (rs,k,y) =>
       if K8 (ns.length:Int) (DR rs)=false then .no 1
       else if k<ns.length then (if ns.getD k 0=0 then .no 3 else if Q5 20 (DI (Y8 ns (rs.getD k [])))=true then .put y (Y8 ns (rs.getD k [])) else .tx "full")
       else .no 2
      | none=>.any)
     else ai ns a r
  | none=>.any
noncomputable def lO (U:List (Str × List Int)):C1->gs
 | .str t=>match de t with
  | none=>.no 9
  | some (a,ds)=>iL U a ds
 | _=>.no 9
noncomputable def KU (H:Hp):List (Str × List Int)->List (O4 × V)->Prop
 | [],kvs=>kvs=[]
 | (x,ns)::U,kvs=>∃a r,kvs=(C8 x,.ref a)::r/\H a=some (.tup (ns.map V.int))/\Q5 20 (DI ns)=true/\KU H U r
theorem KU.same {H H':Hp} (g:n8 H H'):∀{U:List (Str × List Int)}{kvs:List (O4 × V)},KU H U kvs->KU H' U kvs
 | [],_,h=>h
 | (_,_)::_,_,⟨a,r,e,h1,h2,h3⟩=>⟨a,r,e,g _ _ h1,h2,KU.same g h3⟩
theorem KU.keys {H:Hp}:∀{U:List (Str × List Int)}{kvs:List (O4 × V)},KU H U kvs->kvs.map (·.1)=(U.map (·.1)).map C8
 | [],_,h=>by rw[show _=[] from h];rfl
 | (x,ns)::U,_,⟨a,r,e,_,_,h3⟩=>by rw[e,r9,r9,r9,KU.keys h3]
theorem KU.len {H:Hp}{U:List (Str × List Int)}{kvs:List (O4 × V)} (h:KU H U kvs):kvs.length=U.length:=by
 have:=congrArg BX h.keys
 rwa [d8,d8,d8] at this
theorem KU.val {H:Hp}{x:Str}:∀{U:List (Str × List Int)}{kvs:List (O4 × V)},KU H U kvs->(Cc U x=none/\eD kvs (C8 x)=none) ∨ ∃ns a,Cc U x=some ns/\eD kvs (C8 x)=some (.ref a)/\H a=some (.tup (ns.map V.int))/\Q5 20 (DI ns)=true
 | [],kvs,h=>by rw[show kvs=[] from h];exact .inl ⟨rfl,rfl⟩
 | (y,ns)::U,_,⟨a,r,e,h1,h2,h3⟩=>by
  rw[e]
  unfold Cc
  by_cases hy:y=x
  ·rw[List.find?_cons_of_pos (by simp[hy]),iH (by rw[hy])]
   exact .inr ⟨ns,a,rfl,rfl,h1,h2⟩
  ·rw[List.find?_cons_of_neg (by simp[hy]),fU (fun z=>hy (by injection z))]
   exact KU.val h3
section
variable {P:i8}{w:t9}{K:j7}{mg:Str->Option b9}{base:Heap}{f:Addr}{fd:A9}{ec:Nat->Addr}{Bs dl C:Addr}{fL:Str->Option b9}
def ow (C:Addr) (ec:Nat->Addr):Sp:=fun vs H Q E=>∃(d m:Addr) (kvs:List (O4 × V)) (U:List (Str × List Int)) (g:C1) (v:V),vs=[.ref d,v]/\Ga C H d m kvs/\KU H U kvs/\U.length<=50/\(∀r∈U,r.1.length<=8)/\Dt d H g v/\(∀t,g=.str t->t.length<=900) /\
 Res ec H Q E (fun x ns=>∀a H',n8 H H'->H' a=some (.tup (ns.map V.int))->Q (.str "ok") (A6 H' m (.dK (putK kvs (C8 x) (.ref a))))) (lO U g)
abbrev Du:Stmt:=Pt 1
theorem sP:B1 ["self","line","asked","others","urn"] ["self","line"] (r6 Du):=⟨rfl,rfl,rfl,by decide+kernel,rfl,by decide+kernel,by decide+kernel⟩
theorem Lm (F:Y3 K "say" "Desk.say" Du f fd) (D:rX K C) (B3:Nb mg) (c1:O9 P w K mg base 9 "line_read" ["line"] (CV ec)) (c2:uA P w K mg base C 5 "keep" ["self","name","urn"] (sJ C)) (c3:jF P w K mg base C 1 "urn_by_name" ["self","name"] (xo C ec)) (c4:O9 P w K mg base 10 "answer" ["asked","urn","others"] (xC ec))
  (c5:O9 P w K mg base 7 "after" ["urn","rule","kind"] (iK ec)):G7 P w K mg base (cj P w) 11 f fd ["self","line"] (ow C ec):=by
 refine F.okX sP (fun vs H Q E h=>?_) (fun cdv A outer s H vs Q E hr h=>?_)
 ·obtain⟨d,m,kvs,U,g,v,rfl,_⟩:=h
  rfl
 refine⟨_,j5 (iT (G1 (c1.up (by decide)) hr rfl K0 (b8 (pv 1) f7)) (jW rfl (L9 (R4 (i:=2) sP.nd rfl (A4 rfl)) (L9 (R4 (i:=3) sP.nd rfl (A4 rfl)) bQ))))
  (j5 (K4 (E4 Z0 (pv 2) D0 (G0 _)) (n6 (A5 (cZ D2 L7 L6 dR D0 (b8 (A1 (kq rfl) rfl B3.sorted fA (b8 (tP (pv 0) rfl) f7)) f7)))) D4)
  (j5 (K4 (E4 Z0 (pv 2) D0 (G0 _)) (n6 (A5 (zE (pv 0) D.cls (c2.up (by decide)) hr (b8 (K5 K1 (pv 3) t8 (fun _ _=>rfl)) (b8 (K5 K1 (pv 3) t8 (fun _ _=>rfl)) f7))))) D4)
  (j5 (@F7 _ _ 4 _ _ _ _ sP.nd rfl (A4 rfl) (cY (pv 0) D.cls (c3.up (by decide)) hr K0 (b8 (K5 K1 (pv 3) t8 (fun _ _=>rfl)) f7)) (by rfl) (by first|exact .inl rfl|exact .inr rfl))
  (j5 (K4 (E4 Z0 (pv 2) D0 (G0 _)) (n6 (A5 (zE (pv 0) D.cls (c2.up (by decide)) hr (b8 (K5 K1 (pv 3) t8 (fun _ _=>rfl)) (b8 (G1 (c5.up (by decide)) hr rfl K0 (b8 (pv 4) (b8 (K5 K1 (pv 3) t8 (fun _ _=>rfl)) (b8 (K5 K1 (pv 3) t8 (fun _ _=>rfl)) f7)))) f7))))) D4)
  (n6 (A5 (G1 c4 hr rfl K0 (b8 (pv 2) (b8 (pv 4) (b8 (oY sO (pv 3) (tG t8) tH) f7)))))))))),?_⟩
 obtain⟨d,m,kvs,U,g,v,rfl,⟨dx,hd,hm⟩,hK,hU50,hN,hg,h9,q⟩:=h
 refine⟨_,rfl,d,_,g,v,rfl,hd,hg,fun hs H' g1=>?_,fun t et=>?_⟩
 ·have:lO U g=.no 9:=by
   cases g with
   | str t=>cases hs
   | _=>rfl
  rw[this] at q
  exact q H' g1
 subst et
 refine⟨h9 t rfl,fun hn H' g1=>?_,fun a ds hl p l ys H1 g1 hp hl1 hw=>?_⟩
 ·have:lO U (.str t)=.no 9:=by
   show (match de t with|none=>gs.no 9|some (a,ds)=>iL U a ds)=_
   rw[hn]
  rw[this] at q
  exact q H' g1
 have e0:lO U (.str t)=iL U a ds:=by
  show (match de t with|none=>gs.no 9|some (a,ds)=>iL U a ds)=_
  rw[hl]
 rw[e0] at q
 clear e0
 have hd1:=g1 _ _ hd
 have hm1:=g1 _ _ hm
 have hK1:=hK.same g1
 have hkl:=hK.len
 have i0:∀(v:V) r,rV (v::r) 0=some v:=fun v r=>F6 (j:=0) rfl
 have i1:∀(v x:V) r,rV (v::x::r) 1=some x:=fun v x r=>F6 (j:=1) rfl
 have i2:∀(v x y:V) r,rV (v::x::y::r) 2=some y:=fun v x y r=>F6 (j:=2) rfl
 have i3:∀(v x y z:V) r,rV (v::x::y::z::r) 3=some z:=fun v x y z r=>F6 (j:=3) rfl
 unfold iL at q
 refine⟨p,_,rfl,.of hp,rfl,_,_,rfl,_,_,rfl,rfl,_,rfl,rfl,_,rfl,?_⟩
 by_cases ek:a="kept"
 ·rw[if_pos ek] at q
  rw[JR ek]
  refine O2 ⟨rfl,_,rfl,d,C,dx,_,_,rfl,hd1,D.cls,D.na,rfl,m,kvs,U.map (·.1),rfl,hm1,hK.keys,by rw[d8];lia,fun Dd ms H2 hpm hpw g2 hD=>?_⟩
  refine⟨_,Dd,ms,rfl,rfl,.of hD,?_,?_⟩
  ·have hs:(ms.map fun y=>y.length).sum<=8*ms.length:=aW fun y hy=>by
    obtain⟨r,hr',rfl⟩:=List.mem_map.mp (hpm.mem_iff.mp hy)
    exact hN r hr'
   have hml:ms.length=U.length:=by rw[hpm.length_eq,d8]
   have:(" ":Str).length=1:=by decide+kernel
   rw[this]
   lia
  ·rw[sF hpw]
   exact q H2 (g1.trans g2)
 rw[if_neg ek] at q
 rw[Jq ek]
 refine N3 ⟨_,rfl,rfl,_,rfl,?_⟩
 cases hna:zJ ds with
 | none=>rw[hna] at q;exact q.elim
 | some xr =>
 obtain⟨x,r⟩:=xr
 obtain⟨vs,ey,hvs⟩:=HR hna hw
 subst ey
 rw[hna] at q
 dsimp only at q
 by_cases eu:a="urn"
 ·rw[if_pos eu] at q
  rw[JR eu]
  cases hua:CG r with
  | none=>rw[hua] at q;exact q.elim
  | some ns =>
   obtain⟨b,ey,hb⟩:=JT hua hvs
   subst ey
   rw[hua] at q
   dsimp only at q
   cases hu:Q5 20 (DI ns) with
   | true =>
    rw[if_pos hu] at q
    obtain⟨hUr,n1,n4⟩:=ax hu
    refine O2 ⟨_,rfl,d,dx,_,rfl,hd1,rfl,_,rfl,l,_,0,_,rfl,rfl,.of hl1,i0 _ _,_,rfl,l,_,1,_,rfl,rfl,.of hl1,i1 _ _ _,?_⟩
    exact⟨d,m,kvs,x,b,b+1,ns,rfl,⟨dx,hd1,hm1⟩,by lia,Dt.mkI (m9 (J3 b)) hb,n4,fun _ H2 g2=>q b H2 (g1.trans g2) (g2 _ _ hb),fun z=>by rw[hu] at z;cases z⟩
   | false =>
    rw[if_neg (by rw[hu];decide)] at q
    exact q.elim
 rw[if_neg eu] at q
 rw[Jq eu]
 refine N3 ⟨_,rfl,d,dx,_,rfl,hd1,rfl,_,rfl,l,_,0,_,rfl,rfl,.of hl1,i0 _ _,d,m,kvs,x,rfl,⟨dx,hd1,hm1⟩,fun u hu=>?_,fun hn H2 g2=>?_⟩
 rotate_left
 ·rcases hK.val (x:=x) with ⟨z1,_⟩|⟨ns,b,_,z2,_⟩
  ·rw[z1] at q
   exact q H2 (g1.trans g2)
  ·rw[z2] at hn;cases hn
 rcases hK1.val (x:=x) with ⟨_,z2⟩|⟨ns,b,z1,z2,hb,hur⟩
 ·rw[z2] at hu;cases hu
 rw[z2] at hu
 cases hu
 rw[z1] at q
 dsimp only at q
 obtain⟨hUr,n1,n4⟩:=ax hur
 have hbd:b≠d:=fun z=>by rw[z,hd1] at hb;cases hb
 have hdt:Dt d H1 (DI ns) (.ref b):=Dt.mkI hbd hb
 refine⟨_,rfl,rfl,_,rfl,?_⟩
 by_cases ed:a="draw"
 ·rw[if_pos ed] at q
  rw[JR ed]
  cases hda:zS r with
  | none=>rw[hda] at q;exact q.elim
  | some rky =>
   obtain⟨rs,k,y⟩:=rky
   obtain⟨v2,e2,hv2,ho⟩:=IB hda hvs
   subst e2
   rw[hda] at q
   dsimp only at q
   refine O2 ⟨_,rfl,d,dx,_,rfl,hd1,rfl,_,rfl,l,_,3,_,rfl,rfl,.of hl1,i3 _ _ _ _ _,_,rfl,_,rfl,l,_,1,_,rfl,rfl,.of hl1,i1 _ _ _,_,rfl,l,_,2,_,rfl,rfl,.of hl1,i2 _ _ _ _,?_⟩
   have hlD:bI (DI ns)=ns.length:=V0 ns
   have hsh:cq (DI ns):=W0 (by lia)
   by_cases hr':K8 (ns.length:Int) (DR rs)=false
   ·rw[if_pos hr'] at q
    exact .inl ⟨d,_,_,_,DI ns,DR rs,.int k,1,rfl,hdt,hsh,hv2,ho,Dt.int _ _ _,.inr (.inl ⟨rfl,hur,by rw[hlD];exact hr'⟩),fun H2 g2=>q H2 (g1.trans g2)⟩
   rw[if_neg hr'] at q
   have hr2:K8 (ns.length:Int) (DR rs)=true:=by simpa using hr'
   by_cases hk:k<ns.length
   rotate_left
   ·rw[if_neg hk] at q
    refine .inl ⟨d,_,_,_,DI ns,DR rs,.int k,2,rfl,hdt,hsh,hv2,ho,Dt.int _ _ _,.inr (.inr ⟨rfl,hur,by rw[hlD];exact hr2,?_⟩),fun H2 g2=>q H2 (g1.trans g2)⟩
    rw[hlD]
    show (decide ((0:Int)<=k)&&decide ((k:Int)<=(ns.length:Int) - 1))=false
    rw[decide_eq_false (p:=(k:Int)<=(ns.length:Int) - 1) (by lia),aU]
   rw[if_pos hk] at q
   have hR:=aH hr2
   refine .inr ⟨d,b,v2,ns.length,k,ns,rs,rfl,hdt,hUr,hv2,hR,n1,n4,hk,fun hz H2 g2=>?_,fun hz b2 H2 g2 hb2=>?_⟩
   ·rw[if_pos hz] at q
    exact q H2 (g1.trans g2)
   ·rw[if_neg hz] at q
    have hla:(Y8 ns (rs.getD k [])).length<=4:=by
     have:=(hR.at hk).len
     unfold Y8
     rw[eX]
     lia
    refine⟨d,m,kvs,y,b2,b2+1,_,rfl,⟨dx,g2 _ _ hd1,g2 _ _ hm1⟩,by lia,Dt.mkI (m9 (J3 b2)) hb2,hla,fun hu H3 g3=>?_,fun hu H3 g3=>?_⟩
    ·rw[if_pos hu] at q
     exact q b2 H3 ((g1.trans g2).trans g3) (g3 _ _ hb2)
    ·rw[if_neg (by rw[hu];decide)] at q
     exact q H3 ((g1.trans g2).trans g3)
 rw[if_neg ed] at q
 rw[Jq ed]
 refine N3 ⟨_,rfl,_,rfl,_,rfl,1,rfl,l,_,rfl,.of hl1,fun pr hpr=>?_⟩
 refine⟨d,b,pr,ns,a,_,r,rfl,j0,?_,(hdt.kp ((n8.new hpr).kp d)),hur,?_⟩
 ·have:qf d H1 r vs:=hvs
  have e:nD (V.str x::vs) (some 1) none=vs:=by
   have:=vS (xs:=V.str x::vs) (y:=1) (by simp)
   exact this
  rw[e]
  exact this.same (n8.new hpr)
 ·cases hA:ai ns a r with
  | no i=>rw[hA] at q;exact fun H2 g2=>q H2 (g1.trans ((n8.new hpr).trans g2))
  | tx t=>rw[hA] at q;exact fun H2 g2=>q H2 (g1.trans ((n8.new hpr).trans g2))
  | put x ns' =>
   exfalso
   unfold ai at hA
   repeat' split at hA
   all_goals cases hA
  | any=>rw[hA] at q;exact q
end
def zf:Sp:=fun vs H Q _=>∃(st:Addr) (v:V) (rs:List (List Int)) (n:Nat),vs=[v]/\Dt st H (DR rs) v/\Mt.kB n 5 rs/\1<=n/\n<=4/\∀H',n8 H H'->Q (.str (rT rs)) H'
section
variable {P:i8}{w:t9}{K:j7}{mg:Str->Option b9}{base:Heap}{f:Addr}{fd:A9}{ec:Nat->Addr}{Bs:Addr}
abbrev Dz:Stmt:=top 75
theorem Ku:B1 ["_law_urn_here"] ["_law_urn_here"] (r6 Dz):=⟨rfl,rfl,rfl,by decide+kernel,rfl,by decide+kernel,by decide+kernel⟩
theorem Lr (F:Y3 K "_law_urn_text" "_law_urn_text" Dz f fd) (B2:Gv mg):G7 P w K mg base cQ 1 f fd ["_law_urn_here"] mK:=by
 refine F.ok Ku (fun vs H Q E h=>?_) (fun cdv A outer s H vs Q E hr h=>?_)
 ·obtain⟨a,ns,rfl,_⟩:=h
  rfl
 obtain⟨a,ns,rfl,ha,hl,hb,q⟩:=h
 refine⟨_,(@n6 _ _ _ (A5 (cZ D2 L7 L6 dR D0 (@b8 _ _ _ _ _ (O1 (N:=["_law_many"]) (ix:=[none]) (ifs:=[]) (tc:=T5) rfl (jV (pv 0))
   (fun s H ex=>bz (i:=0) (by decide+kernel) rfl (A4 rfl) (.inr rfl)) (fun s H ex=>L8) (fun s H ex=>(D9 N5 rfl B2.str aM (@b8 _ _ _ _ _ (pv 0) f7 (by rfl)))) rfl (by decide+kernel) (by rfl) (by rfl) (fun _=>rfl)) f7 (by rfl))))),?_⟩
 refine⟨rfl,_,rfl,a,rfl,⟨_,.of ha⟩,?_⟩
 refine ic (K:=K) (a:=a) (xs:=ns.map V.int) (sz (by rw[d8];lia)) (fun i ys H2=>n8 H H2/\ys=((ns.take i).map tx).map V.str/\ys.length=i)
  ⟨n8.refl _,rfl,rfl⟩ (fun i ys H2 h=>h.2.2) (fun i ys H2 _ h=>.of (h.1 _ _ ha)) rfl (fun i ys H2 v hv h=>?_) (fun ys H2 h=>?_)
 ·obtain⟨g2,hy,hyl⟩:=h
  rw[v8] at hv
  obtain⟨x,hx,ex⟩:=Option.map_eq_some_iff.mp hv
  subst ex
  have hxb:=hb x (y8 hx)
  refine⟨_,rfl,x,rfl,vI hxb.1 (by lia),g2,?_,by rw[y6,hyl];rfl⟩
  rw[hy,D1,hx,w5,w5]
  rfl
 ·obtain⟨g2,hy,hyl⟩:=h
  rw[d8,J4 (i9 _)] at hy
  subst hy
  intro p hp
  have hsl:=aW (m:=2) (ys:=ns.map tx) fun y hy=>by
   obtain⟨x,hx,e⟩:=List.mem_map.mp hy
   have:=hb x hx
   rw[<- e];exact(mH this.1 (by lia)).2.2
  rw[d8] at hsl
  refine⟨_,p,ns.map tx,rfl,rfl,.of j0,?_,q _ (g2.trans (n8.new hp))⟩
  rw[d8,rF]
  lia
abbrev DA:Stmt:=top 76
theorem Kv:B1 ["_law_rule_here"] ["_law_rule_here"] (r6 DA):=⟨rfl,rfl,rfl,by decide+kernel,rfl,by decide+kernel,by decide+kernel⟩
theorem Ls (F:Y3 K "_law_rule_text" "_law_rule_text" DA f fd) (c1:S6 P w K mg base 1 "_law_urn_text" ["_law_urn_here"] mK):G7 P w K mg base cQ 2 f fd ["_law_rule_here"] zf:=by
 refine F.ok Kv (fun vs H Q E h=>?_) (fun cdv A outer s H vs Q E hr h=>?_)
 ·obtain⟨st,v,rs,n,rfl,_⟩:=h
  rfl
 obtain⟨st,v,rs,n,rfl,hd,hR,n1,n4,q⟩:=h
 refine⟨_,(@n6 _ _ _ (A5 (cZ D2 L7 L6 dR D0 (@b8 _ _ _ _ _ (O1 (N:=["_law_line_here"]) (ix:=[none]) (ifs:=[]) (tc:=T5) rfl (jV (pv 0))
   (fun s H ex=>bz (i:=0) (by decide+kernel) rfl (A4 rfl) (.inr rfl)) (fun s H ex=>L8) (fun s H ex=>(B0 c1 hr rfl (@b8 _ _ _ _ _ (pv 0) f7 (by rfl)))) rfl (by decide+kernel) (by rfl) (by rfl) (fun _=>rfl)) f7 (by rfl))))),?_⟩
 have hl:=hR.len
 obtain⟨ra,rxs,era,_,hra,hds⟩:=hd.untup
 subst era
 have hrl:=hds.len
 rw[d8,hl] at hrl
 refine⟨rfl,_,rfl,ra,rfl,⟨_,.of hra⟩,?_⟩
 refine ic (K:=K) (a:=ra) (xs:=rxs) (sz (by lia)) (fun i ys H2=>n8 H H2/\ys=((rs.take i).map nT).map V.str/\ys.length=i)
  ⟨n8.refl _,rfl,rfl⟩ (fun i ys H2 h=>h.2.2) (fun i ys H2 _ h=>.of (h.1 _ _ hra)) rfl (fun i ys H2 v hv h=>?_) (fun ys H2 h=>?_)
 ·obtain⟨g2,hy,hyl⟩:=h
  obtain⟨d,hd',dt⟩:=hds.get hv
  rw[v8] at hd'
  obtain⟨row,hrow,ed⟩:=Option.map_eq_some_iff.mp hd'
  subst ed
  obtain⟨bb,eb,_,hbr⟩:=dt.di
  subst eb
  have hrw:=hR.row row (y8 hrow)
  refine⟨_,rfl,bb,row,rfl,g2 _ _ hbr,by rw[hrw.len];lia,fun x hx=>?_,fun H3 g3=>⟨g2.trans g3,?_,by rw[y6,hyl];rfl⟩⟩
  ·have:=hrw.nn x hx
   lia
  ·rw[hy,D1,hrow,w5,w5]
   rfl
 ·obtain⟨g2,hy,hyl⟩:=h
  rw[<- hrl,J4 (by lia)] at hy
  subst hy
  intro p hp
  have hsl:=aW (m:=12) (ys:=rs.map nT) fun y hy=>by
   obtain⟨x,hx,e⟩:=List.mem_map.mp hy
   have hrw:=hR.row x hx
   rw[<- e]
   exact yr (by rw[hrw.len];lia) fun z hz=>by have:=hrw.nn z hz;lia
  rw[d8] at hsl
  refine⟨_,p,rs.map nT,rfl,rfl,.of j0,?_,q _ (g2.trans (n8.new hp))⟩
  rw[d8,js]
  lia
abbrev DD:Stmt:=top 77
theorem Kw:B1 ["_law_part"] ["_law_part"] (r6 DD):=⟨rfl,rfl,rfl,by decide+kernel,rfl,by decide+kernel,by decide+kernel⟩
theorem Lx (F:Y3 K "_law_fraction_text" "_law_fraction_text" DD f fd) (B2:Gv mg):G7 P w K mg base cQ 1 f fd ["_law_part"] jQ:=by
 refine F.ok Kw (fun vs H Q E h=>?_) (fun cdv A outer s H vs Q E hr h=>?_)
 ·obtain⟨a,t,b,rfl,_⟩:=h
  rfl
 obtain⟨a,t,b,rfl,ha,t0,t4,b0,b4,q⟩:=h
 refine⟨_,(@j5 _ _ _ _ _ (K4 (@E4 _ _ _ _ _ _ _ _ Z0 (@K5 _ _ _ _ _ _ _ ah (pv 0) t8 (fun _ _=>rfl)) t8 (G0 _)) (@n6 _ _ _ (A5 (D9 N5 rfl B2.str aM (@b8 _ _ _ _ _ (@K5 _ _ _ _ _ _ _ ah (pv 0) t8 (fun _ _=>rfl)) f7 (by rfl))))) D4)
  (@n6 _ _ _ (A5 (@J6 _ _ _ _ _ _ _ _ P6 (@J6 _ _ _ _ _ _ _ _ P6 (D9 N5 rfl B2.str aM (@b8 _ _ _ _ _ (@K5 _ _ _ _ _ _ _ ah (pv 0) t8 (fun _ _=>rfl)) f7 (by rfl))) D0) (D9 N5 rfl B2.str aM (@b8 _ _ _ _ _ (@K5 _ _ _ _ _ _ _ ah (pv 0) t8 (fun _ _=>rfl)) f7 (by rfl))))))),?_⟩
 have hlt:=lK t0 t4
 have hlb:=lK b0 b4
 refine⟨_,rfl,a,_,_,_,rfl,rfl,.of ha,F6 (j:=1) rfl,rfl,_,rfl,?_⟩
 by_cases e:b=1
 ·have ef:fT t b=tx t:=if_pos e
  rw[decide_eq_true (congrArg V.int e)]
  refine O2 ⟨_,rfl,a,_,_,_,rfl,rfl,.of ha,F6 (j:=0) rfl,t,rfl,mT t0 t4,?_⟩
  have:=q _ (n8.refl H)
  rw[ef] at this
  exact this
 ·have ef:fT t b=tx t++("/"++tx b):=if_neg e
  rw[decide_eq_false (fun z=>e (V.int.inj z))]
  have big:=(show 2000<=i7 by decide)
  have h1:=js
  refine N3 ⟨_,rfl,a,_,_,_,rfl,rfl,.of ha,F6 (j:=0) rfl,t,rfl,mT t0 t4,_,_,rfl,rfl,?_,_,rfl,a,_,_,_,rfl,rfl,.of ha,F6 (j:=1) rfl,b,rfl,mT b0 b4,_,_,rfl,rfl,?_,?_⟩
  ·change (tx t).length+_<=_
   rw[h1];lia
  ·change (tx t++"/").length+(tx b).length<=_
   rw[B4,h1];lia
  have:=q _ (n8.refl H)
  rw[ef,<- fV] at this
  exact this
end
end G
namespace G
open L2
theorem Via {A:Prop} (k:∀R:Prop,(A->R)->R):A:=k A id
end G
namespace G
open PySem PySem.Spec PyProof.Rows L2 Mt
theorem LO:∀ys:List Str,(D7 "" ys).cps.toList=(ys.map fun y=>y.cps.toList).flatten:=fun ys=>by
 rw[U6]
 induction ys with
 | nil=>rfl
 | cons x r ih =>
  cases r with
  | nil=>rw[rZ];simp
  | cons y r =>
   rw[bD]
   show ((x.cps++("":Str).cps)++(eg "" (y::r)).cps).toList=_
   rw[kK,kK,ih]
   have:("":Str).cps.toList=[]:=by decide+kernel
   rw[this,S8];rfl
theorem Bl (cs:List Nat):(D7 "" (cs.map kW)).cps.toList=cs:=by
 rw[LO]
 induction cs with
 | nil=>rfl
 | cons c cs ih=>rw[r9,r9,List.flatten_cons,ih];rfl
theorem yg {cs:List Nat} (h1:1<=cs.length) (h8:cs.length<=8) (h:∀c∈cs,97<=c/\c<=122):S3 (D7 "" (cs.map kW))=true:=by
 have e:=Bl cs
 have el:(D7 "" (cs.map kW)).length=cs.length:=by
  show (D7 "" (cs.map kW)).cps.size=_
  rw[<- B8,e]
 unfold S3
 rw[el,e,decide_eq_true h1,decide_eq_true h8,Q0,Q0,qm]
 intro c hc
 have:=h c hc
 unfold pL
 rw[decide_eq_true this.1,decide_eq_true this.2];rfl
theorem HW {k:Nat} (h:k<26):rV ("abcdefghijklmnopqrstuvwxyz":Str).cps.toList (k:Int)=some (97+k):=by
 have:∀k:Fin 26,rV ("abcdefghijklmnopqrstuvwxyz":Str).cps.toList (k.1:Int)=some (97+k.1):=by decide+kernel
 exact this ⟨k,h⟩
variable {x:Str}
theorem Z9 (h:S3 x=true):1<=x.length/\x.length<=8/\∀c∈x.cps.toList,97<=c/\c<=122:=by
 unfold S3 at h
 rw[w6,w6] at h
 refine⟨of_decide_eq_true h.1.1,of_decide_eq_true h.1.2,fun c hc=>?_⟩
 have:=List.all_eq_true.mp h.2 c hc
 unfold pL at this
 rw[w6] at this
 exact⟨of_decide_eq_true this.1,of_decide_eq_true this.2⟩
theorem vD (h:S3 x=true):eS x=true:=by
 have hl:=(Z9 h).2.2
 unfold eS
 rw[Array.all_eq_true']
 intro c hc
 have:=hl c (Array.mem_toList_iff.mpr hc)
 exact decide_eq_true (by lia)
theorem pN:∀ss:List Str,(∀s∈ss,eS s=true)->J2 (ss.map J9)=true/\K7 (ss.map J9)<=1
 | [],_=>⟨by show J2 []=true;unfold J2;rfl,by show K7 []<=1;unfold K7;lia⟩
 | x::ss,hk=>by
  have ih:=pN ss fun s hs=>hk s (i4 _ hs)
  refine⟨?_,?_⟩
  ·show J2 (J9 x::ss.map J9)=true
   unfold J2
   rw[ih.1]
   show (N2 (.str x)&&true)=true
   unfold N2
   rw[hk x f9];rfl
  ·show K7 (J9 x::ss.map J9)<=1
   unfold K7
   have:U4 (.str x)<=1:=by unfold U4;lia
   have:=ih.2
   lia
theorem fi (ss:List Str) (hk:∀s∈ss,eS s=true):X5 (.list (ss.map J9))=true:=by
 unfold X5
 rw[w6]
 refine⟨?_,decide_eq_true ?_⟩
 ·show N2 (.list (ss.map J9))=true
  unfold N2
  exact(pN ss hk).1
 ·have:=(pN ss hk).2
  show U4 (.list (ss.map J9))<=64
  unfold U4
  lia
theorem jc {st:Addr}{H:Hp}:∀ss:List Str,T6 st H (ss.map J9) (ss.map V.str)
 | []=>T6.nil _ _
 | x::ss=>T6.cons (by unfold Dt;rfl) (jc ss)
variable {H:Hp}{Q:VK}
theorem LF {p r:Addr}{ss:List Str}(hk:∀s∈ss,eS s=true) (hp:H p=some (.lst (ss.map V.str))) (hr:H r=some (.lst [])) (q:Q (.bl (!decide (ss=[]))) H):Ob (.ref p) (.ref r) H Q:=by
 have n1:p≠p+r+1:=m9 (S7 (M3 p r))
 have n2:r≠p+r+1:=m9 (S7 (av r p))
 refine⟨p+r+1,.list (ss.map J9),.list (([]:List Str).map J9),?_,?_,fi ss hk,fi [] (fun s hs=>by cases hs),?_⟩
 ·unfold Dt;exact⟨p,_,rfl,n1,hp,jc ss⟩
 ·unfold Dt;exact⟨r,_,rfl,n2,hr,jc []⟩
 ·have e:X8 (.list (ss.map J9)) (.list (([]:List Str).map J9))=decide (ss=[]):=by
   cases ss with
   | nil=>unfold X8;show D3 [] []=_;unfold D3;rfl
   | cons x ss=>unfold X8;show D3 (J9 x::ss.map J9) []=_;unfold D3;rfl
  rw[e];exact q
theorem Fj {S R:Hp->Prop}{A:Prop} (main:(∀H',S H'->R H')->A) (V3:∀H',S H'->R H'):A:=main V3
section
variable {P:i8}{w:t9}{K:j7}{mg:Str->Option b9}{base:Heap}{f:Addr}{fd:A9}{ec:Nat->Addr}{Bs:Addr}
def xu:Sp:=fun vs H Q _=>∃(l nl:Addr) (x:Int) (b:Bool) (ss:List Str),vs=[.ref l,.ref nl]/\H l=some (.lst [.int x,.bl b])/\ly x b/\H nl=some (.lst (ss.map V.str))/\nl≠l/\ss.length<=50/\(∀s∈ss,S3 s=true) /\
 ∀y H',S3 y=true->ba l b H H'->Q (.str y) H'
abbrev DB:Stmt:=top 78
theorem xG:B1 ["_law_state_here","_law_names","_law_kind","_law_letters"] ["_law_state_here","_law_names"] (r6 DB):=⟨rfl,rfl,rfl,by decide+kernel,rfl,by decide+kernel,by decide+kernel⟩
theorem Lu (F:Y3 K "_law_name" "_law_name" DB f fd) (B:Bt mg) (c1:S6 P w K mg base 1 "_law_take" ["_law_state_here","_law_many"] fh):G7 P w K mg base cQ 2 f fd ["_law_state_here","_law_names"] xu:=by
 refine F.ok xG (fun vs H Q E h=>?_) (fun cdv A outer s H vs Q E hr h=>?_)
 ·obtain⟨l,nl,x,b,ss,rfl,_⟩:=h
  rfl
 obtain⟨l,nl,x,b,ss,rfl,hl,ok,hn,nn,hss,hP,q⟩:=h
 refine⟨_,(@j5 _ _ _ _ _ (@F7 _ _ 2 _ _ _ _ xG.nd rfl (A4 rfl) (B0 c1 hr rfl (@b8 _ _ _ _ _ (pv 0) (@b8 _ _ _ _ _ t8 f7 (by rfl)) (by rfl))) (by rfl) (by first|exact .inl rfl|exact .inr rfl))
  (@j5 _ _ _ _ _ (K4 (PW.pt (DS (@E4 _ _ _ _ _ _ _ _ Z0 (pv 2) t8 (G0 _)) (zA (@E4 _ _ _ _ _ _ _ _ (Lj hr.units) (pv 1) (@ag _ _ _ _ f7) (G0 _))))) (@n6 _ _ _ (A5 (@K5 _ _ _ _ _ _ _ K1 (pv 1) (B0 c1 hr rfl (@b8 _ _ _ _ _ (pv 0) (@b8 _ _ _ _ _ (A1 E2 rfl B.len C9 (@b8 _ _ _ _ _ (pv 1) f7 (by rfl))) f7 (by rfl)) (by rfl))) (fun _ _=>rfl)))) D4)
  (@j5 _ _ _ _ _ (K4 (@E4 _ _ _ _ _ _ _ _ Z0 (pv 2) t8 (G0 _)) (@n6 _ _ _ (A5 (@K5 _ _ _ _ _ _ _ K1 (@ag _ _ _ _ (@b8 _ _ _ _ _ D0 (@b8 _ _ _ _ _ D0 (@b8 _ _ _ _ _ D0 (@b8 _ _ _ _ _ D0 (@b8 _ _ _ _ _ D0 (@b8 _ _ _ _ _ D0 f7 (by rfl)) (by rfl)) (by rfl)) (by rfl)) (by rfl)) (by rfl))) (B0 c1 hr rfl (@b8 _ _ _ _ _ (pv 0) (@b8 _ _ _ _ _ t8 f7 (by rfl)) (by rfl))) (fun _ _=>rfl)))) D4)
  (@j5 _ _ _ _ _ (@F7 _ _ 3 _ _ _ _ xG.nd rfl (bf rfl) D0 (by rfl) (by first|exact .inl rfl|exact .inr rfl))
  (@n6 _ _ _ (A5 (cZ D2 L7 L6 dR D0 (@b8 _ _ _ _ _ (O1 (N:=["_law_turn","_law_letters","_law_state_here"]) (ix:=[none,some 3,some 0]) (ifs:=[]) (tc:=T5) rfl (U3 rfl B.range (@b8 _ _ _ _ _ (@J6 _ _ _ _ _ _ _ _ cE t8 (B0 c1 hr rfl (@b8 _ _ _ _ _ (pv 0) (@b8 _ _ _ _ _ t8 f7 (by rfl)) (by rfl)))) f7 (by rfl)))
   (fun s H ex=>bz (i:=0) (by decide+kernel) rfl (A4 rfl) (.inr rfl)) (fun s H ex=>L8) (fun s H ex=>(@K5 _ _ _ _ _ _ _ LP (pv 1) (B0 c1 hr rfl (@b8 _ _ _ _ _ (pv 2) (@b8 _ _ _ _ _ t8 f7 (by rfl)) (by rfl))) (fun _ _=>rfl))) rfl (by decide+kernel) (by rfl) (by rfl) (fun _=>rfl)) f7 (by rfl))))))))),?_⟩
 have s0:ba l b H H:=ba.start hl ok
 refine⟨_,rfl,l,4,x,b,rfl,hl,ok,by decide,by decide,fun y x1 hy ok1=>?_⟩
 have s1:=s0.go ok1
 have k1:Kp l H (A6 H l (.lst [.int x1,.bl b])):=Kp.at
 try dsimp -proj only[R7]
 generalize A6 H l (.lst [.int x1,.bl b])=H1 at s1 k1
 have hn1:=k1 _ _ nn hn
 refine Via fun R k_=>?_
 obtain⟨_,x2,hx2,tU⟩:=id s1
 refine k_ ?_
 apply Fj (S:=fun Hx=>ba l b H Hx)
 ·intro V3
  refine⟨_,rfl,rfl,_,rfl,?_⟩
  by_cases hy0:(y:Int)=0
  ·rw[decide_eq_true (congrArg V.int hy0)]
   refine O2 ⟨_,rfl,(by show 0<=i7;decide),fun pe hpe=>?_⟩
   have ge:n8 H1 (A6 H1 pe (.lst [])):=n8.new hpe
   refine LF (fun s hs=>vD (hP s hs)) (ge _ _ hn1) j0 ⟨_,rfl,?_⟩
   have s2:=s1.same ge
   have hn2:=ge _ _ hn1
   generalize A6 H1 pe (.lst [])=H2 at s2 hn2
   by_cases hs:ss=[]
   ·rw[decide_eq_true hs]
    exact N3 (V3 H2 s2)
   ·rw[decide_eq_false hs]
    have hpos:1<=ss.length:=List.length_pos_iff.mpr hs
    refine O2 ?_
    obtain⟨_,x3,hx3,ok3⟩:=id s2
    refine⟨_,rfl,_,rfl,_,rfl,nl,_,rfl,.inl (.of hn2),l,_,x3,b,rfl,hx3,ok3,?_,?_,fun y2 x4 hy2 ok4=>?_⟩
    ·rw[d8];lia
    ·rw[d8];lia
    rw[d8] at hy2
    have hyl:y2<ss.length:=by lia
    refine⟨nl,_,_,_,rfl,rfl,.of (Kp.at _ _ nn hn2),F6 (j:=y2) (v:=.str ss[y2]) (by rw[v8,i6 hyl];rfl),?_⟩
    exact q _ _ (hP _ (O0 hyl)) (s2.go ok4)
  ·rw[decide_eq_false (fun z=>hy0 (V.int.inj z))]
   exact N3 (V3 H1 s1)
 intro Hx sx
 obtain⟨_,x5,hx5,ok5⟩:=id sx
 refine⟨_,rfl,rfl,_,rfl,?_⟩
 by_cases hy1:(y:Int)=1
 ·rw[decide_eq_true (congrArg V.int hy1)]
  refine O2 ⟨(by show 6<=i7;decide),fun pl hpl=>?_⟩
  have gl:n8 Hx (A6 Hx pl (.lst [.str "urn",.str "kept",.str "draw",.str "none",.str "fair",.str "zzzzzzzz"])):=n8.new hpl
  have hplu:A6 Hx pl (.lst [.str "urn",.str "kept",.str "draw",.str "none",.str "fair",.str "zzzzzzzz"]) pl=some (.lst ((["urn","kept","draw","none","fair","zzzzzzzz"]:List Str).map V.str)):=j0
  have s6:=sx.same gl
  have npl:pl≠l:=fun z=>by rw[z,hx5] at hpl;cases hpl
  generalize A6 Hx pl (.lst [.str "urn",.str "kept",.str "draw",.str "none",.str "fair",.str "zzzzzzzz"])=H6 at s6 hplu
  obtain⟨_,x6,hx6,ok6⟩:=id s6
  refine⟨_,rfl,l,6,x6,b,rfl,hx6,ok6,by decide,by decide,fun y2 x7 hy2 ok7=>?_⟩
  have hy6:y2<6:=by lia
  have nm:∀k:Fin 6,S3 ((["urn","kept","draw","none","fair","zzzzzzzz"]:List Str)[k.1]'k.2)=true:=by decide+kernel
  exact⟨pl,_,_,_,rfl,rfl,.of (Kp.at _ _ npl hplu),F6 (j:=y2) (v:=.str ((["urn","kept","draw","none","fair","zzzzzzzz"]:List Str)[y2]'hy6)) (by rw[v8,i6 hy6];rfl),q _ _ (nm ⟨y2,hy6⟩) (s6.go ok7)⟩
 rw[decide_eq_false (fun z=>hy1 (V.int.inj z))]
 refine N3 ?_
 refine⟨rfl,_,rfl,l,8,x5,b,rfl,hx5,ok5,by decide,by decide,fun m x8 hm ok8=>⟨_,_,rfl,rfl,?_⟩⟩
 have em:(1:Int)+(m:Int)=((1+m:Nat):Int):=by lia
 refine⟨((1+m:Nat):Int),by rw[<- em],by lia,by lia,?_⟩
 have s8:=sx.go ok8
 try dsimp -proj only
 generalize A6 Hx l (.lst [.int x8,.bl b])=H8 at s8
 refine aI (lo:=0) (n:=1+m) (sz (by lia)) (fun i ys HE=>ba l b H HE/\∃cs:List Nat,ys=(cs.map kW).map V.str/\cs.length=i/\∀c∈cs,97<=c/\c<=122)
  ⟨s8,[],rfl,rfl,by simp⟩ (fun i ys HE h=>?_) rfl (fun i ys HE hi h=>?_) (fun ys HE h=>?_)
 ·obtain⟨_,cs,rfl,hc,_⟩:=h
  rw[d8,d8];exact hc
 ·obtain⟨sE,cs,rfl,hc,hb⟩:=h
  obtain⟨_,xE,hxE,okE⟩:=id sE
  refine⟨_,rfl,_,rfl,l,26,xE,b,rfl,hxE,okE,by decide,by decide,fun z x9 hz ok9=>⟨_,_,_,rfl,rfl,by decide+kernel,HW (k:=z) (by lia),sE.go ok9,cs++[97+z],?_,by rw[y6,hc];rfl,fun c hc'=>?_⟩⟩
  ·rw[w5,w5];rfl
  ·rcases List.mem_append.mp hc' with h|h
   ·exact hb c h
   ·rw[List.mem_singleton.mp h];lia
 obtain⟨sE,cs,rfl,hc,hb⟩:=h
 intro pj hpj
 refine⟨_,pj,cs.map kW,rfl,rfl,.of j0,?_,q _ _ (yg (by lia) (by lia) hb) (sE.same (n8.new hpj))⟩
 have hsl:=aW (m:=1) (ys:=cs.map kW) fun y hy=>by
  obtain⟨c,_,rfl⟩:=List.mem_map.mp hy
  exact i9 _
 rw[d8] at hsl ⊢
 have:("":Str).length=0:=by decide+kernel
 rw[this]
 lia
end
section
variable {P:i8}{w:t9}{K:j7}{mg:Str->Option b9}{base:Heap}{f:Addr}{fd:A9}{ec:Nat->Addr}
noncomputable def wt (c:Nat->Addr) (Val:V->Hp->Prop) (H:Hp) (Q:VK) (E:XK):Option Nat->Prop
 | none=>∀v H1,n8 H H1->Val v H1->Q v H1
 | some i=>∀H1,n8 H H1->E (.ref (c i)) none H1
def kO (P:i8) (w:t9) (K:j7) (mg:Str->Option b9) (base:Heap) (k:Nat) (c:Nat->Addr):Sp:=fun vs H Q _=>∃(fa:Addr) (spL:Sp) (fo:Obj) (fd:A9) (o:Option Nat) (Val:V->Hp->Prop),vs=[.ref fa]/\H fa=some (KN fo)/\fo.data=.func fd /\
 fG fd ⟨[],[]⟩=pure []/\G7 P w K mg base (cj P w) k fa fd [] spL/\(∀i,o=some i->i<10)/\(∀H1,n8 H H1->∀Q' E',wt c Val H1 Q' E' o->spL [] H1 Q' E')/\(∀i,o=some i->∀H',n8 H H'->Q (.int i) H')/\(o=none->∀v H',n8 H H'->Val v H'->Q v H')
abbrev tj:Stmt:=top 79
theorem zo:B1 ["_law_call","_law_number"] ["_law_call"] (r6 tj):=⟨rfl,rfl,rfl,by decide+kernel,rfl,by decide+kernel,by decide+kernel⟩
theorem HK {c:Nat->Addr}{k:Nat} (FF:Y3 K "_law_made" "_law_made" tj f fd) (c1:S6 P w K mg base (k+1) "_law_refused" ["_law_call"] (eG P w K mg base k c)):G7 P w K mg base cQ (k+2) f fd ["_law_call"] (kO P w K mg base k c):=by
 refine FF.ok zo (fun vs H Q E h=>?_) (fun cdv A outer s H vs Q E hr h=>?_)
 ·obtain⟨fa,spL,fo,fd,o,Val,rfl,_⟩:=h
  rfl
 obtain⟨fa,spL,fo,fd',o,Val,rfl,kn,hfd,bnd,FL,ho,hsp,q1,q0⟩:=h
 have hr0:Y9 k (A.deeper (Y5 "_law_made" (r6 tj) s.heap.objs.size f cdv)):=hr.mono (V5 k)
 refine⟨_,j5 (@F7 _ _ 1 _ _ _ _ zo.nd rfl (A4 rfl) (B0 c1 hr rfl (b8 (pv 0) f7)) (by rfl) (by first|exact .inl rfl|exact .inr rfl)) (j5 (K4 (xU (Ep (pv 1))) (n6 (A5 (Em (iC:=0) hr0 rfl (A4 rfl)))) D4) (n6 (A5 (pv 1)))),?_⟩
 refine⟨_,rfl,fa,spL,fo,fd',o,rfl,kn,hfd,bnd,FL,ho,fun Q' E' hO=>?_,fun H1 g1=>?_⟩
 ·refine hsp H (n8.refl H) Q' E' ?_
  cases o with
  | none=>exact fun v H1 g _=>hO v H1 g
  | some i=>exact hO
 ·refine⟨_,rfl,_,rfl,?_⟩
  cases o with
  | none =>
   refine O2 ⟨fa,spL,rfl,⟨fo,fd',g1 _ _ kn,hfd,bnd,FL⟩,hsp H1 g1 _ _ fun v H2 g2 hv=>?_⟩
   exact q0 rfl v H2 (g1.trans g2) hv
  | some i =>
   rw[decide_eq_false (show ¬ Oi (some i)=V.non from fun z=>by cases z)]
   exact N3 ⟨_,rfl,q1 i rfl H1 g1⟩
end
theorem LX {X:Cx}{σ:L2.St}{Hf H1:Hp} (fz:ky X σ H Hf) (g:n8 Hf H1):ky X σ (bH X.env.cells H1) H1 :=
 ⟨fun b z=>(M7 z).symm,fun b z=>fk z,fun x c h=>(let ⟨o,v,e,d⟩:=fz.cell x c h;⟨o,v,g _ _ e,d⟩),fun i x v h1 h2 h3=>(let ⟨c,oc,u,a1,a2,a3⟩:=fz.val i x v h1 h2 h3;⟨c,oc,u,a1,g _ _ a2,a3⟩)⟩
def JE (X:Cx) (params:bP) (body:Expr) (scope:M8) (H:Hp) (f:Addr):Prop:=∃c ctv,H f=some (KN (Ff X params body scope c ctv))/\Ah (pO X) H c
section
variable {X:Cx}{params:bP}{body:Expr}{scope:M8}{H H':Hp}{f0 T p:Addr}
theorem jb {σ:L2.St}{Hf:Hp}{N:List Str}{ix:List (Option Nat)}{k:Nat}{c:Nat->Addr}{Q:VK}{o:Option Nat}{Val:V->Hp->Prop}
  (Zc:wx X) (fz:ky X σ H Hf) (hL:JE X params body scope H f0) (hfr:Y1 scope X.env=true) (k1:scope.kind=.function) (k2:scope.isCoroutine=false) (k3:scope.isGenerator=false) (k4:∀x∈scope.names,x.2≠.cell) (hx:eZ scope X.N N ix=true) (hi:∀i,o=some i->i<10)
  (hba:∀c0 ctv,fG (PH "<lambda>" (pO X) params body scope (Q6 X.env scope.names []) ((X.mg "__name__").getD .none) (.ref c0) ctv) ⟨[],[]⟩=pure [])
  (hV:∀v H1 H2,n8 H1 H2->Val v H1->Val v H2)
  (hrun:∀(Hz:Hp) (c0:Addr) (A':y7) (outer':List Env) (s':f6) (E1:XK) (Q1:VK),Y9 k (A'.deeper (lD (pO X) scope s'.heap.objs.size f0 (.ref c0) (Q6 X.env scope.names [])))->n8 H Hz->wt c (fun v H1=>Val v H1/\∀b,fN (Q6 X.env scope.names []) b->H1 b=none) Hz Q1 E1 o ->
   ∃t,PE (qc X.prog X.w X.K X.mg X.base N (pO X) scope f0 (.ref c0) (Q6 X.env scope.names []) A' outer' s' Hz E1) body t/\t (aA ix σ) Hz Q1)
  (q1:∀i,o=some i->∀H',n8 Hf H'->Q (.int i) H') (q0:o=none->∀v H',n8 Hf H'->Val v H'->Q v H'):kO X.prog X.w X.K X.mg X.base (k+1) c [.ref f0] Hf Q E0:=by
 obtain⟨c0,ctv,hf0,oc,ovs,ot,hoc,hod1,hod2⟩:=hL
 refine⟨f0,Jj X.prog X.w X.K X.mg X.base k f0 c0 _ _ _ _ _ _ _ _ N,_,_,o,Val,rfl,fz.same _ _ hf0,rfl,hba c0 ctv,fnL (Zc.lsc hfr k1 k2 k3 k4) (fun _ _ _ _ h=>h),hi,fun H1 g1 Q' E' ho=>?_,q1,q0⟩
 have fz1:=LX fz g1
 have gH:n8 H (bH (Q6 X.env scope.names []) H1):=fun b o e=>by
  have nc:¬ fN X.env.cells b:=fun z=>by rw[fz.none b z] at e;cases e
  rw[M7 fun z=>nc (Zc.cel hfr z)]
  exact g1 b o (fz.same b o e)
 refine⟨rfl,g1 _ _ (fz.same _ _ hf0),⟨oc,ovs,ot,g1 _ _ (fz.same _ _ hoc),hod1,hod2⟩,Zc.celk hfr fz1,_,Zc.st hfr fz1 hx,fun A' outer' s' hr'=>?_⟩
 refine hrun _ c0 A' outer' s' _ _ hr' gH ?_
 cases o with
 | none=>exact fun v H'' g hv=>ho v _ (tQ g) (hV _ _ _ (GY hv.2) hv.1)
 | some i=>exact fun H'' g=>ho _ (tQ g)
end
variable {rs:List (List Int)}{n:Nat}
theorem Hs (hR:Mt.kB n 5 rs) (n1:1<=n):(C7 (rT rs) "/" 0 (rT rs).length ((rT rs).length+1)).length+1=n:=by
 have hl:=hR.len
 have hne:rs≠[]:=fun e=>by rw[e] at hl;simp at hl;lia
 have hb:∀r∈rs,∀x∈r,0<=x/\x<=20:=fun r hr x hx=>by have:=(hR.row r hr).nn x hx;lia
 have hs:=vg hne hb
 have hx:1<=(rT rs).length:=by
  refine bX fun z=>?_
  have e:rT rs=V6:=ze (by
   have:(rT rs).cps.toList.length=0:=by rw[B8];exact z
   rw[List.length_eq_zero_iff.mp this];rfl)
  rw[e] at hs
  have e2:A8 V6 "/"=[V6]:=by decide+kernel
  rw[e2] at hs
  match rs,hne,hs,hl,hR with
  | r::rs',_,hs,hl,hR =>
   rw[r9] at hs
   have h1:nT r=V6:=(cM hs).1.symm
   have hr:=hR.row r f9
   have h2:=oq (ns:=r) (fun z=>by have:=hr.len;rw[z] at this;simp at this;lia) (fun x hx=>by have:=hr.nn x hx;lia)
   rw[h1] at h2
   have e3:A8 V6 ","=[V6]:=by decide+kernel
   rw[e3] at h2
   match r,h2,hr with
   | x::r',h2,hr =>
    rw[r9] at h2
    have h3:tx x=V6:=(cM h2).1.symm
    have hx:=hr.nn x f9
    obtain⟨i,rfl⟩:=cn hx.1
    have hF:∀j:Fin 6,tx (j.1:Int)≠V6:=by decide+kernel
    exact hF ⟨i,by lia⟩ h3
 have hc:=vU (x:=rT rs) (y:="/") (by rw[js];exact hx) (j9 (show S4 "/"<=1 by decide+kernel) (Fi _))
 rw[hs,d8] at hc
 lia
variable {ns:List Int}
theorem pq (h:∀x∈ns,0<=x/\x<=20):32 ∉ (nT ns).cps.toList:=fun z=>by
 unfold nT at z
 rw[U6,vW,dS] at z
 rcases tV z with e|⟨p,hp,hd⟩
 ·exact absurd e (by decide)
 ·obtain⟨y,hy,rfl⟩:=List.mem_map.mp hp
  obtain⟨i,hi,rfl⟩:=List.mem_map.mp hy
  obtain⟨i0,i20⟩:=h i hi
  obtain⟨k,rfl⟩:=cn i0
  have hF:∀j:Fin 21,(tx (j.1:Int)).cps.toList.contains 32=false:=by decide+kernel
  have:=hF ⟨k,by lia⟩
  rw[Ca] at this
  exact absurd hd (by simpa using this)
theorem jY (h:∀r∈rs,∀x∈r,0<=x/\x<=20):32 ∉ (rT rs).cps.toList:=fun z=>by
 unfold rT at z
 rw[U6,zk,dS] at z
 rcases tV z with e|⟨p,hp,hd⟩
 ·exact absurd e (by decide)
 ·obtain⟨y,hy,rfl⟩:=List.mem_map.mp hp
  obtain⟨r,hr,rfl⟩:=List.mem_map.mp hy
  exact pq (h r hr) hd
theorem rl (hR:Mt.kB n 5 rs):∀r∈rs,∀x∈r,0<=x/\x<=20:=fun r hr x hx=>by have:=(hR.row r hr).nn x hx;lia
theorem KW {k:Nat} (hk:k<21):zw 21 (tx (k:Int))=some k:=by
 have:∀k:Fin 21,zw 21 (tx (k.1:Int))=some k.1:=by decide+kernel
 exact this ⟨k,hk⟩
theorem NZ {k:Nat} (hk:k<6):zw 6 (tx (k:Int))=some k:=by
 have:∀k:Fin 6,zw 6 (tx (k.1:Int))=some k.1:=by decide+kernel
 exact this ⟨k,hk⟩
theorem xR {n:Nat} (hn:∀k,k<n->zw n (tx ((k:Nat):Int))=some k):∀{ns:List Int},(∀x∈ns,0<=x/\x<(n:Int))->qr n (ns.map tx)=some ns
 | [],_=>rfl
 | x::ns,h=>by
  obtain⟨h0,h1⟩:=h x f9
  obtain⟨k,rfl⟩:=cn h0
  have ih:=xR hn (ns:=ns) fun y hy=>h y (i4 _ hy)
  show (match zw n (tx (k:Int)),qr n (ns.map tx) with|some j,some ns=>some ((j:Int)::ns)|_,_=>none)=_
  rw[hn k (by lia),ih]
theorem JU (hU:Mt.gx n 20 ns) (n1:1<=n) (n4:n<=4):MO (nT ns)=some ns:=by
 have hne:ns≠[]:=fun e=>by have:=hU.len;rw[e] at this;simp at this;lia
 unfold MO
 rw[oq hne fun x hx=>hU.nn x hx,xR (n:=21) (fun k h=>KW h) fun x hx=>by have:=hU.nn x hx;lia]
 show (if Q5 20 (DI ns)=true then some ns else none)=some ns
 rw[if_pos (gG hU n1 n4)]
theorem DL {n:Nat}:∀{rs:List (List Int)},(∀r∈rs,Mt.JC n 5 r)->1<=n->zv (rs.map nT)=some rs
 | [],_,_=>rfl
 | r::rs,h,n1=>by
  have hr:=h r f9
  have hne:r≠[]:=fun e=>by have:=hr.len;rw[e] at this;simp at this;lia
  have ih:=DL (rs:=rs) (fun y hy=>h y (i4 _ hy)) n1
  show (match qr 6 (A8 (nT r) ","),zv (rs.map nT) with|some ns,some rs=>some (ns::rs)|_,_=>none)=_
  rw[oq hne (fun x hx=>by have:=hr.nn x hx;lia),xR (n:=6) (fun k h=>NZ h) (fun x hx=>by have:=hr.nn x hx;lia),ih]
theorem yH (hR:Mt.kB n 5 rs) (n1:1<=n) (n4:n<=4):JA (rT rs)=some rs:=by
 have hl:=hR.len
 have hne:rs≠[]:=fun e=>by rw[e] at hl;simp at hl;lia
 unfold JA
 rw[Hs hR n1,if_neg (by lia)]
 unfold Hr
 rw[vg hne (rl hR),DL (fun r hr=>hR.row r hr) n1]
 show (if K8 (n:Int) (DR rs)=true then some rs else none)=some rs
 rw[if_pos (oQ hR)]
theorem Mc {k:Nat} (hk:k<=9):MT (tx (k:Int))=some k:=by
 have:∀k:Fin 10,MT (tx (k.1:Int))=some k.1:=by decide+kernel
 exact this ⟨k,by lia⟩
theorem Jz:(" ":Str)=⟨#[32]⟩:=by decide+kernel
theorem mi {a:Str}{ws fos:List Str}{ds:List Wd} (ha:32 ∉ a.cps.toList) (hw:∀y∈ws,32 ∉ y.cps.toList) (hf:nA a=some fos) (hl:fos.length=ws.length) (hd:P4 fos ws=some ds):de (D7 " " (a::ws))=some (a,ds):=by
 unfold de
 rw[U6,Jz,jO (by simp) (fun y hy=>(List.mem_cons.mp hy).elim (fun e=>by rw[e];exact ha) (hw y))]
 show (match nA a with|none=>none|some fos=>if fos.length=ws.length then (P4 fos ws).map fun ds=>(a,ds) else none)=_
 rw[hf]
 show (if fos.length=ws.length then (P4 fos ws).map fun ds=>(a,ds) else none)=_
 rw[if_pos hl,hd];rfl
theorem eN (h:S3 x=true):32 ∉ x.cps.toList:=fun z=>by have:=(Z9 h).2.2 32 z;lia
theorem CH {k:Nat} (hk:k<=9):32 ∉ (tx (k:Int)).cps.toList:=fun z=>by
 have hF:∀j:Fin 10,(tx (j.1:Int)).cps.toList.contains 32=false:=by decide+kernel
 have:=hF ⟨k,by lia⟩
 rw[Ca] at this
 exact absurd z (by simpa using this)
theorem jN (h:S3 x=true):dw "name" x=some (.name x):=by
 unfold dw
 rw[if_pos rfl,if_pos h]
theorem Nx (hU:Mt.gx n 20 ns) (n1:1<=n) (n4:n<=4):dw "urn" (nT ns)=some (.urn ns):=by
 unfold dw
 rw[if_neg (by decide+kernel),if_pos rfl,JU hU n1 n4];rfl
theorem wX (hR:Mt.kB n 5 rs) (n1:1<=n) (n4:n<=4):dw "rule" (rT rs)=some (.rule rs):=by
 unfold dw
 rw[if_neg (by decide+kernel),if_neg (by decide+kernel),if_pos rfl,yH hR n1 n4];rfl
theorem CF {k:Nat} (hk:k<=9):dw "figure" (tx (k:Int))=some (.fig k):=by
 unfold dw
 rw[if_neg (by decide+kernel),if_neg (by decide+kernel),if_neg (by decide+kernel),Mc hk];rfl
theorem HV (hx:S3 x=true) (hU:Mt.gx n 20 ns) (n1:1<=n) (n4:n<=4):de (D7 " " ["urn",x,nT ns])=some (("urn":Str),[Wd.name x,.urn ns]):=by
 refine mi (fos:=["name","urn"]) (by decide+kernel) (fun y hy=>?_) (by decide+kernel) rfl ?_
 ·simp only[C3,B6,or_false] at hy
  rcases hy with e|e
  ·rw[e];exact eN hx
  ·rw[e];exact pq fun z hz=>hU.nn z hz
 ·unfold P4 P4 P4;rw[jN hx,Nx hU n1 n4]
theorem Fb {y:Str}{k:Nat}(hx:S3 x=true) (hy:S3 y=true) (hR:Mt.kB n 5 rs) (n1:1<=n) (n4:n<=4) (hk:k<=9):de (D7 " " ["draw",x,rT rs,tx (k:Int),y])=some (("draw":Str),[Wd.name x,.rule rs,.fig k,.name y]):=by
 refine mi (fos:=["name","rule","figure","name"]) (by decide+kernel) (fun z hz=>?_) (by decide+kernel) rfl ?_
 ·simp only[C3,B6,or_false] at hz
  rcases hz with e|e|e|e
  ·rw[e];exact eN hx
  ·rw[e];exact jY (rl hR)
  ·rw[e];exact CH hk
  ·rw[e];exact eN hy
 ·unfold P4 P4 P4 P4 P4;rw[jN hx,wX hR n1 n4,CF hk,jN hy]
theorem yp {k:Nat} (hx:S3 x=true) (hk:k<=9):de (D7 " " ["chance",x,tx (k:Int)])=some (("chance":Str),[Wd.name x,.fig k]):=by
 refine mi (fos:=["name","figure"]) (by decide+kernel) (fun z hz=>?_) (by decide+kernel) rfl ?_
 ·simp only[C3,B6,or_false] at hz
  rcases hz with e|e
  ·rw[e];exact eN hx
  ·rw[e];exact CH hk
 ·unfold P4 P4 P4;rw[jN hx,CF hk]
theorem EX {a:Str}{k:Nat}(ha:a="stands" ∨ a="mean") (hx:S3 x=true) (hR:Mt.kB n 5 rs) (n1:1<=n) (n4:n<=4) (hk:k<=9):de (D7 " " [a,x,rT rs,tx (k:Int)])=some (a,[Wd.name x,.rule rs,.fig k]):=by
 refine mi (fos:=["name","rule","figure"]) (by rcases ha with e|e <;> (rw[e];decide+kernel)) (fun z hz=>?_) (by rcases ha with e|e <;> (rw[e];decide+kernel)) rfl ?_
 ·simp only[C3,B6,or_false] at hz
  rcases hz with e|e|e
  ·rw[e];exact eN hx
  ·rw[e];exact jY (rl hR)
  ·rw[e];exact CH hk
 ·unfold P4 P4 P4 P4;rw[jN hx,wX hR n1 n4,CF hk]
theorem EZ (hx:S3 x=true) (hR:Mt.kB n 5 rs) (n1:1<=n) (n4:n<=4):de (D7 " " ["fair",x,rT rs])=some (("fair":Str),[Wd.name x,.rule rs]):=by
 refine mi (fos:=["name","rule"]) (by decide+kernel) (fun z hz=>?_) (by decide+kernel) rfl ?_
 ·simp only[C3,B6,or_false] at hz
  rcases hz with e|e
  ·rw[e];exact eN hx
  ·rw[e];exact jY (rl hR)
 ·unfold P4 P4 P4;rw[jN hx,wX hR n1 n4]
theorem EW (hx:S3 x=true):de (D7 " " ["show",x])=some (("show":Str),[Wd.name x]):=by
 refine mi (fos:=["name"]) (by decide+kernel) (fun z hz=>?_) (by decide+kernel) rfl ?_
 ·simp only[C3,B6,or_false] at hz
  rw[hz];exact eN hx
 ·unfold P4 P4;rw[jN hx]
theorem EY:de "kept"=some (("kept":Str),[]):=by decide+kernel
set_option maxHeartbeats 8000000
mutual
theorem OV {l T:Addr}{H:Hp}{ps:Array b9} (hT:H T=some (.tbl ps)):∀{d:C1}{v:V},Dt l H d v->Dt T H d v
 | .none,_,h=>by unfold Dt at h ⊢;exact h
 | .bool _,_,h=>by unfold Dt at h ⊢;exact h
 | .int _,_,h=>by unfold Dt at h ⊢;exact h
 | .str _,_,h=>by unfold Dt at h ⊢;exact h
 | .tuple ds,_,h=>by
  unfold Dt at h ⊢
  obtain⟨a,xs,e,n,q,r⟩:=h
  exact⟨a,xs,e,(fun z=>by rw[z,hT] at q;cases q),q,yR hT r⟩
 | .list ds,_,h=>by
  unfold Dt at h ⊢
  obtain⟨a,xs,e,n,q,r⟩:=h
  exact⟨a,xs,e,(fun z=>by rw[z,hT] at q;cases q),q,yR hT r⟩
 | .dict kvs,_,h=>by
  unfold Dt at h ⊢
  obtain⟨z,a,e,n,q⟩:=h
  exact⟨z,a,e,(fun z=>by rw[z,hT] at q;cases q),q⟩
theorem yR {l T:Addr}{H:Hp}{ps:Array b9} (hT:H T=some (.tbl ps)):∀{ds:List C1}{xs:List V},T6 l H ds xs->T6 T H ds xs
 | [],_,h=>by unfold T6 at h ⊢;exact h
 | d::ds,_,h=>by
  unfold T6 at h ⊢
  obtain⟨x,r,e,q1,q2⟩:=h
  exact⟨x,r,e,OV hT q1,yR hT q2⟩
end
mutual
theorem uy {l T:Addr}{H H':Hp}{ps:Array b9} (hT:H T=some (.tbl ps)) (k:Kp T H H'):∀{d:C1}{v:V},Dt l H d v->Dt l H' d v
 | .none,_,h=>by unfold Dt at h ⊢;exact h
 | .bool _,_,h=>by unfold Dt at h ⊢;exact h
 | .int _,_,h=>by unfold Dt at h ⊢;exact h
 | .str _,_,h=>by unfold Dt at h ⊢;exact h
 | .tuple ds,_,h=>by
  unfold Dt at h ⊢
  obtain⟨a,xs,e,n,q,r⟩:=h
  exact⟨a,xs,e,n,k _ _ (fun z=>by rw[z,hT] at q;cases q) q,qh hT k r⟩
 | .list ds,_,h=>by
  unfold Dt at h ⊢
  obtain⟨a,xs,e,n,q,r⟩:=h
  exact⟨a,xs,e,n,k _ _ (fun z=>by rw[z,hT] at q;cases q) q,qh hT k r⟩
 | .dict kvs,_,h=>by
  unfold Dt at h ⊢
  obtain⟨z,a,e,n,q⟩:=h
  exact⟨z,a,e,n,k _ _ (fun z=>by rw[z,hT] at q;cases q) q⟩
theorem qh {l T:Addr}{H H':Hp}{ps:Array b9} (hT:H T=some (.tbl ps)) (k:Kp T H H'):∀{ds:List C1}{xs:List V},T6 l H ds xs->T6 l H' ds xs
 | [],_,h=>by unfold T6 at h ⊢;exact h
 | d::ds,_,h=>by
  unfold T6 at h ⊢
  obtain⟨x,r,e,q1,q2⟩:=h
  exact⟨x,r,e,uy hT k q1,qh hT k q2⟩
end
noncomputable def qP (ns:List Int) (rs:List (List Int)) (k:Nat):Option Nat:=if K8 (ns.length:Int) (DR rs)=false then some 1 else if k<ns.length then (if ns.getD k 0=0 then some 3 else none) else some 2
noncomputable def JD (U:List (Str × List Int)) (line y:Str) (u:V) (H:Hp):Prop :=
 (∃(a:Addr) (ns:List Int) (n:Nat),u=.ref a/\H a=some (.tup (ns.map V.int))/\Mt.gx n 20 ns/\1<=n/\n<=4/\de line=some (("urn":Str),[Wd.name y,Wd.urn ns])) ∨
 ∃(x:Str) (ns:List Int) (rs:List (List Int)) (k:Nat),Cc U x=some ns/\de line=some (("draw":Str),[Wd.name x,Wd.rule rs,Wd.fig k,Wd.name y])/\((∃i,qP ns rs k=some i/\u=.int i) ∨ (qP ns rs k=none/\∃a,u=.ref a/\H a=some (.tup ((Y8 ns (rs.getD k [])).map V.int))))
theorem KU.mono {H H':Hp} (g:∀a xs,H a=some (.tup xs)->H' a=some (.tup xs)):∀{U:List (Str × List Int)}{kvs:List (O4 × V)},KU H U kvs->KU H' U kvs
 | [],_,h=>h
 | (_,_)::_,_,⟨a,r,e,h1,h2,h3⟩=>⟨a,r,e,g _ _ h1,h2,KU.mono g h3⟩
theorem yn {U:List (Str × List Int)} (h:x∈U.map (·.1)):Cc U x≠none:=fun z=>by
 unfold Cc at z
 rw[iy,mG] at z
 obtain⟨r,hr,e⟩:=List.mem_map.mp h
 exact z r hr (decide_eq_true e)
theorem len5 (a b c d e:Str):(D7 " " [a,b,c,d,e]).length=a.length+b.length+c.length+d.length+e.length+4:=by
 show (D7 " " [a,b,c,d,e]).cps.size=a.cps.size+b.cps.size+c.cps.size+d.cps.size+e.cps.size+4
 have h:(D7 " " [a,b,c,d,e]).cps.toList=a.cps.toList++32::(b.cps.toList++32::(c.cps.toList++32::(d.cps.toList++32::e.cps.toList))):=by
  rw[U6,Jz,dS]
  rfl
 rw[<- B8,h]
 simp only[y6,m8,B8]
 lia
theorem FR {k:Nat}:∀i,qP ns rs k=some i->i<10:=fun i h=>by
 unfold qP at h
 split at h
 ·cases h;decide
 ·split at h
  ·split at h
   ·cases h;decide
   ·cases h
  ·cases h;decide
theorem j3 (a x t:Str):((a++" ")++x++" ")++t=D7 " " [a,x,t]:=by
 rw[U6,bD,bD,rZ]
 show _=(a++" ")++((x++" ")++t)
 rw[fV (a++" ") x " ",fV (a++" ") (x++" ") t]
theorem JS:("urn ":Str)="urn"++" ":=by decide+kernel
theorem Me {p r:Addr}{ss:List Str}(hk:∀s∈ss,eS s=true) (hp:H p=some (.lst (ss.map V.str))) (hr:H r=some (.lst [])) (q:Q (.bl (decide (ss=[]))) H):Lb (.ref p) (.ref r) H Q:=by
 have n1:p≠p+r+1:=m9 (S7 (M3 p r))
 have n2:r≠p+r+1:=m9 (S7 (av r p))
 refine⟨p+r+1,.list (ss.map J9),.list (([]:List Str).map J9),?_,?_,fi ss hk,fi [] (fun s hs=>by cases hs),?_⟩
 ·unfold Dt;exact⟨p,_,rfl,n1,hp,jc ss⟩
 ·unfold Dt;exact⟨r,_,rfl,n2,hr,jc []⟩
 ·have e:X8 (.list (ss.map J9)) (.list (([]:List Str).map J9))=decide (ss=[]):=by
   cases ss with
   | nil=>unfold X8;show D3 [] []=_;unfold D3;rfl
   | cons x ss=>unfold X8;show D3 (J9 x::ss.map J9) []=_;unfold D3;rfl
  rw[e];exact q
theorem HX (hU:Mt.gx n 20 ns) (n4:n<=4):(nT ns).length<=12:=yr (by rw[hU.len];lia) fun z hz=>hU.nn z hz
theorem wt.cells {c:Nat->Addr}{Val:V->Hp->Prop}{Zp:Hp->Prop}{E:XK}:∀{o:Option Nat},wt c (fun v H1=>Val v H1/\Zp H1) H Q E o->wt c Val H (fun v H1=>Zp H1->Q v H1) E o
 | none,h=>fun v H1 g hv z=>h v H1 g ⟨hv,z⟩
 | some _,h=>h
theorem EI {X:Cx}{σ:L2.St}{Hf Ho:Hp}{a:Addr}{xs:List V} (fz:ky X σ H Hf) (g:n8 Hf Ho) (h:Ho a=some (.tup xs)):bH X.env.cells Ho a=some (.tup xs):=by
 rw[M7]
 ·exact h
 ·rintro⟨x,e⟩
  obtain⟨o,v,h1,_⟩:=fz.cell x a e
  rw[g _ _ h1] at h;cases h
theorem BJ {ec:Nat->Addr}{k:Nat}{st ka:Addr}{rv:V}{E:XK} (hur:Q5 20 (DI ns)=true) (hdt:Dt st H (DI ns) (.ref ka)) (hrd:Dt st H (DR rs) rv) (ho:tU (DR rs))
  (hO:wt ec (fun v H1=>∃a,v=.ref a/\H1 a=some (.tup ((Y8 ns (rs.getD k [])).map V.int))) H Q E (qP ns rs k)):iK ec [.ref ka,rv,.int k] H Q E:=by
 obtain⟨hUr,n1,n4⟩:=ax hur
 have hlD:bI (DI ns)=ns.length:=V0 ns
 have hsh:cq (DI ns):=W0 (by lia)
 unfold qP at hO
 by_cases hr':K8 (ns.length:Int) (DR rs)=false
 ·rw[if_pos hr'] at hO
  exact .inl ⟨st,_,_,_,DI ns,DR rs,.int k,1,rfl,hdt,hsh,hrd,ho,Dt.int _ _ _,.inr (.inl ⟨rfl,hur,by rw[hlD];exact hr'⟩),hO⟩
 rw[if_neg hr'] at hO
 have hr2:K8 (ns.length:Int) (DR rs)=true:=by simpa using hr'
 by_cases hk:k<ns.length
 rotate_left
 ·rw[if_neg hk] at hO
  refine .inl ⟨st,_,_,_,DI ns,DR rs,.int k,2,rfl,hdt,hsh,hrd,ho,Dt.int _ _ _,.inr (.inr ⟨rfl,hur,by rw[hlD];exact hr2,?_⟩),hO⟩
  rw[hlD]
  show (decide ((0:Int)<=k)&&decide ((k:Int)<=(ns.length:Int) - 1))=false
  rw[decide_eq_false (p:=(k:Int)<=(ns.length:Int) - 1) (by lia),aU]
 rw[if_pos hk] at hO
 refine .inr ⟨st,ka,rv,ns.length,k,ns,rs,rfl,hdt,hUr,hrd,aH hr2,n1,n4,hk,fun hz=>?_,fun hz p H2 g2 hp=>?_⟩
 ·rw[if_pos hz] at hO
  exact hO
 ·rw[if_neg hz] at hO
  exact hO _ H2 g2 ⟨p,rfl,hp⟩
abbrev MR:Str:=(("_law_line":Str)++".<locals>.")++"<lambda>"
section
variable {P:i8}{w:t9}{K:j7}{mg:Str->Option b9}{base:Heap}{f:Addr}{fd:A9}
structure OW (P:i8) (w:t9) (K:j7) (mg:Str->Option b9) (base:Heap) (c:Nat->Addr):Prop where
 take:S6 P w K mg base 14 "_law_take" ["_law_state_here","_law_many"] fh
 na:S6 P w K mg base 14 "_law_name" ["_law_state_here","_law_names"] xu
 urn:S6 P w K mg base 14 "_law_urn" ["_law_state_here","_law_kinds"] sI
 rule:S6 P w K mg base 14 "_law_rule" ["_law_state_here","_law_kinds"] kP
 ut:S6 P w K mg base 14 "_law_urn_text" ["_law_urn_here"] mK
 rt:S6 P w K mg base 14 "_law_rule_text" ["_law_rule_here"] zf
 after:O9 P w K mg base 11 "after" ["urn","rule","kind"] (iK c)
 made:S6 P w K mg base 14 "_law_made" ["_law_call"] (kO P w K mg base 12 c)
def xv (T:Addr):Sp:=fun vs H Q _=>∃(l km:Addr) (x:Int) (b:Bool) (kvs:List (O4 × V)) (U:List (Str × List Int)),vs=[.ref l,.ref km]/\H l=some (.lst [.int x,.bl b])/\ly x b/\H km=some (.dK kvs)/\KU H U kvs/\U.length<=50/\(∀r∈U,S3 r.1=true)/\bJ MR T H /\
 ∀(t:Addr) (line y:Str) (u:V) (H1 H':Hp),ba l b H H1->Kp T H1 H'->bJ MR T H'->H' t=some (.tup [.str line,.str y,u])->S3 y=true->line.length<=900->JD U line y u H'->Q (.ref t) H'
abbrev zq:Stmt:=top 80
theorem gN:B1 ["_law_state_here","_law_kept","_law_names","_law_name_here","_law_urn_here","_law_one","_law_kinds","_law_rule_here","_law_kind","_law_line_here"] ["_law_state_here","_law_kept"] (r6 zq):=⟨rfl,rfl,rfl,by decide+kernel,rfl,by decide+kernel,by decide+kernel⟩
theorem Lw {c:Nat->Addr}{T:Addr} (F:Y3 K "_law_line" "_law_line" zq f fd) (B:Bt mg) (B2:Gv mg) (B3:Nb mg) (C:OW P w K mg base c) (hcode:∃cc,fd.code=.ref cc/\ee K cc T=true) (hKb:K.In base) (hbm:base.BuiltinsAt mg T):G7 P w K mg base cQ 15 f fd ["_law_state_here","_law_kept"] (xv T):=by
 obtain⟨cc,hcc,hcd⟩:=hcode
 refine F.okC gN (fun vs H Q E h=>?_) (fun cdv A outer s H vs Q E hcv hr h=>?_)
 ·obtain⟨l,km,x,b,kvs,U,rfl,_⟩:=h
  rfl
 obtain⟨l,km,x,b,kvs,U,rfl,hl,ok,hkm,hK,hU50,hnm,hCT,q⟩:=h
 have Z:∀(X:Cx),X.env.code=cdv->X.base=base->X.mg=mg->IU X T:=fun X e1 e2 e3=>⟨⟨cc,by rw[e1,<- hcv,hcc],by rw[e2];exact nK hKb hcd⟩,by rw[e2,e3];exact hbm⟩
 refine⟨_,(@j5 _ _ _ _ _ (@F7 _ _ 2 _ _ _ _ gN.nd rfl (A4 rfl) (A1 (kq rfl) rfl B3.sorted fA (@b8 _ _ _ _ _ (pv 1) f7 (by rfl))) (by rfl) (by first|exact .inl rfl|exact .inr rfl))
  (@j5 _ _ _ _ _ (@F7 _ _ 3 _ _ _ _ gN.nd rfl (A4 rfl) (B0 C.na hr rfl (@b8 _ _ _ _ _ (pv 0) (@b8 _ _ _ _ _ (pv 2) f7 (by rfl)) (by rfl))) (by rfl) (by first|exact .inl rfl|exact .inr rfl))
  (@j5 _ _ _ _ _ (K4 (PW.pt (rn (@E4 _ _ _ _ _ _ _ _ Z0 (B0 C.take hr rfl (@b8 _ _ _ _ _ (pv 0) (@b8 _ _ _ _ _ t8 f7 (by rfl)) (by rfl))) t8 (G0 _)) (lU (@E4 _ _ _ _ _ _ _ _ (Ew hr.units) (pv 2) (@ag _ _ _ _ f7) (G0 _))))) (@j5 _ _ _ _ _ (@F7 _ _ 4 _ _ _ _ gN.nd rfl (A4 rfl) (B0 C.urn hr rfl (@b8 _ _ _ _ _ (pv 0) (@b8 _ _ _ _ _ (@J6 _ _ _ _ _ _ _ _ cE t8 (B0 C.take hr rfl (@b8 _ _ _ _ _ (pv 0) (@b8 _ _ _ _ _ t8 f7 (by rfl)) (by rfl)))) f7 (by rfl)) (by rfl))) (by rfl) (by first|exact .inl rfl|exact .inr rfl))
  (@n6 _ _ _ (A5 (@cC _ _ _ _ _ (@b8 _ _ _ _ _ (@J6 _ _ _ _ _ _ _ _ P6 (@J6 _ _ _ _ _ _ _ _ P6 (@J6 _ _ _ _ _ _ _ _ P6 D0 (pv 3)) D0) (B0 C.ut hr rfl (@b8 _ _ _ _ _ (pv 4) f7 (by rfl)))) (@b8 _ _ _ _ _ (pv 3) (@b8 _ _ _ _ _ (pv 4) f7 (by rfl)) (by rfl)) (by rfl)))))) D4)
  (@j5 _ _ _ _ _ (@F7 _ _ 5 _ _ _ _ gN.nd rfl (bf rfl) (@K5 _ _ _ _ _ _ _ K1 (pv 2) (B0 C.take hr rfl (@b8 _ _ _ _ _ (pv 0) (@b8 _ _ _ _ _ (A1 E2 rfl B.len C9 (@b8 _ _ _ _ _ (pv 2) f7 (by rfl))) f7 (by rfl)) (by rfl))) (fun _ _=>rfl)) (by rfl) (by first|exact .inl rfl|exact .inr rfl))
  (@j5 _ _ _ _ _ (@F7 _ _ 6 _ _ _ _ gN.nd rfl (A4 rfl) (@K5 _ _ _ _ _ _ _ K1 (@ag _ _ _ _ (@b8 _ _ _ _ _ (A1 E2 rfl B.len C9 (@b8 _ _ _ _ _ (gS (fq hr) (pv 1) (pv 5) (fun _ _=>rfl)) f7 (by rfl))) (@b8 _ _ _ _ _ (A1 E2 rfl B.len C9 (@b8 _ _ _ _ _ (gS (fq hr) (pv 1) (pv 5) (fun _ _=>rfl)) f7 (by rfl))) (@b8 _ _ _ _ _ (@J6 _ _ _ _ _ _ _ _ cE t8 (B0 C.take hr rfl (@b8 _ _ _ _ _ (pv 0) (@b8 _ _ _ _ _ t8 f7 (by rfl)) (by rfl)))) f7 (by rfl)) (by rfl)) (by rfl))) (B0 C.take hr rfl (@b8 _ _ _ _ _ (pv 0) (@b8 _ _ _ _ _ t8 f7 (by rfl)) (by rfl))) (fun _ _=>rfl)) (by rfl) (by first|exact .inl rfl|exact .inr rfl))
  (@j5 _ _ _ _ _ (@F7 _ _ 7 _ _ _ _ gN.nd rfl (bf rfl) (B0 C.rule hr rfl (@b8 _ _ _ _ _ (pv 0) (@b8 _ _ _ _ _ (pv 6) f7 (by rfl)) (by rfl))) (by rfl) (by first|exact .inl rfl|exact .inr rfl))
  (@j5 _ _ _ _ _ (@F7 _ _ 8 _ _ _ _ gN.nd rfl (bf rfl) (@K5 _ _ _ _ _ _ _ K1 (@ag _ _ _ _ (@b8 _ _ _ _ _ (B0 C.take hr rfl (@b8 _ _ _ _ _ (pv 0) (@b8 _ _ _ _ _ (A1 E2 rfl B.len C9 (@b8 _ _ _ _ _ (gS (fq hr) (pv 1) (pv 5) (fun _ _=>rfl)) f7 (by rfl))) f7 (by rfl)) (by rfl))) (@b8 _ _ _ _ _ (B0 C.take hr rfl (@b8 _ _ _ _ _ (pv 0) (@b8 _ _ _ _ _ t8 f7 (by rfl)) (by rfl))) f7 (by rfl)) (by rfl))) (B0 C.take hr rfl (@b8 _ _ _ _ _ (pv 0) (@b8 _ _ _ _ _ t8 f7 (by rfl)) (by rfl))) (fun _ _=>rfl)) (by rfl) (by first|exact .inl rfl|exact .inr rfl))
  (@j5 _ _ _ _ _ (@F7 _ _ 9 _ _ _ _ gN.nd rfl (A4 rfl) (cZ D2 L7 L6 dR D0 (@b8 _ _ _ _ _ (@ag _ _ _ _ (@b8 _ _ _ _ _ D0 (@b8 _ _ _ _ _ (pv 5) (@b8 _ _ _ _ _ (B0 C.rt hr rfl (@b8 _ _ _ _ _ (pv 7) f7 (by rfl))) (@b8 _ _ _ _ _ (D9 N5 rfl B2.str aM (@b8 _ _ _ _ _ (pv 8) f7 (by rfl))) (@b8 _ _ _ _ _ (pv 3) f7 (by rfl)) (by rfl)) (by rfl)) (by rfl)) (by rfl))) f7 (by rfl))) (by rfl) (by first|exact .inl rfl|exact .inr rfl))
  (@n6 _ _ _ (A5 (@cC _ _ _ _ _ (@b8 _ _ _ _ _ (pv 9) (@b8 _ _ _ _ _ (pv 3) (@b8 _ _ _ _ _ (eM C.made hr rfl (@b8 _ _ _ _ _ (cD (Z _ rfl rfl rfl)) f7 (by rfl))) f7 (by rfl)) (by rfl)) (by rfl))))))))))))),?_⟩
 have s0:ba l b H H:=ba.start hl ok
 have nkl:km≠l:=gn hkm hl (by intro z;cases z)
 refine⟨_,rfl,km,kvs,U.map (·.1),rfl,hkm,hK.keys,by rw[d8];lia,fun D ms H1 pm pw g1 hD=>?_⟩
 have s1:=s0.same g1
 have hms:∀y∈ms,S3 y=true:=fun y hy=>by
  obtain⟨r,hr',e⟩:=List.mem_map.mp (pm.mem_iff.mp hy)
  rw[<- e];exact hnm r hr'
 have hml:ms.length<=50:=by rw[pm.length_eq,d8];exact hU50
 try dsimp -proj only[R7]
 obtain⟨_,x1,hx1,ok1⟩:=id s1
 have nDl:D≠l:=fun e=>by
  rw[e,hx1] at hD
  injection hD with h
  injection h with h
  cases ms with
  | nil=>cases h
  | cons z zs=>injection h with h1 _;cases h1
 refine⟨_,rfl,_,rfl,l,D,x1,b,ms,rfl,hx1,ok1,hD,nDl,hml,hms,fun y H2 hy s2'=>?_⟩
 have s2:=s1.trans s2'
 have hD2:=s2'.1 _ _ nDl hD
 have hkm2:=s2'.1 _ _ nkl (g1 _ _ hkm)
 have hK2:KU H2 U kvs:=(hK.same g1).mono fun a xs e=>s2'.1 _ _ (gn e hx1 (by intro z;cases z)) e
 try dsimp -proj only[R7]
 obtain⟨_,x2,hx2,tU⟩:=id s2
 apply Fj (S:=fun Hx=>ba l b H Hx)
 ·intro P1
  apply Fj (S:=fun Hx=>ba l b H2 Hx/\ms≠[])
  ·intro els
   refine⟨_,rfl,l,2,x2,b,rfl,hx2,tU,by decide,by decide,fun z x3 hz ok3=>⟨rfl,_,rfl,?_⟩⟩
   have s3':ba l b H2 (A6 H2 l (.lst [.int x3,.bl b])):=(ba.start hx2 tU).go ok3
   have hD3:A6 H2 l (.lst [.int x3,.bl b]) D=some (.lst (ms.map V.str)):=Kp.at _ _ nDl hD2
   try dsimp -proj only
   generalize A6 H2 l (.lst [.int x3,.bl b])=H3 at s3' hD3
   by_cases hz0:(z:Int)=0
   ·rw[decide_eq_true (congrArg V.int hz0)]
    exact O2 (P1 _ (s2.trans s3'))
   ·rw[decide_eq_false (fun e=>hz0 (V.int.inj e))]
    refine N3 ⟨_,rfl,(by show 0<=i7;decide),fun pe hpe=>?_⟩
    have ge:n8 H3 (A6 H3 pe (.lst [])):=n8.new hpe
    refine Me (fun s hs=>vD (hms s hs)) (ge _ _ hD3) j0 ⟨_,rfl,?_⟩
    have s4:=s3'.same ge
    generalize A6 H3 pe (.lst [])=H4 at s4
    by_cases hs:ms=[]
    ·rw[decide_eq_true hs]
     exact O2 (P1 _ (s2.trans s4))
    ·rw[decide_eq_false hs]
     exact N3 (els _ ⟨s4,hs⟩)
  rintro H4 ⟨s4',hne⟩
  have s4:=s2.trans s4'
  have hD4:=s4'.1 _ _ nDl hD2
  have hkm4:=s4'.1 _ _ nkl hkm2
  have hK4:KU H4 U kvs:=hK2.mono fun a xs e=>s4'.1 _ _ (gn e hx2 (by intro z;cases z)) e
  clear s4' hK2 hkm2 hD2
  obtain⟨_,x4,hx4,ok4⟩:=id s4
  have hpos:1<=ms.length:=List.length_pos_iff.mpr hne
  refine⟨_,rfl,_,rfl,_,rfl,D,_,rfl,.inl (.of hD4),l,_,x4,b,rfl,hx4,ok4,?_,?_,fun z x5 hz ok5=>?_⟩
  ·rw[d8];lia
  ·rw[d8];lia
  rw[d8] at hz
  have hzl:z<ms.length:=by lia
  have s5':ba l b H4 (A6 H4 l (.lst [.int x5,.bl b])):=(ba.start hx4 ok4).go ok5
  refine⟨D,_,_,_,rfl,rfl,.of (Kp.at _ _ nDl hD4),F6 (j:=z) (v:=.str ms[z]) (by rw[v8,i6 hzl];rfl),?_⟩
  have hone:=hms _ (O0 hzl)
  have hin:ms[z]∈U.map (·.1):=pm.mem_iff.mp (O0 hzl)
  generalize ms[z]=one at hone hin
  have s5:=s4.trans s5'
  have hkm5:=s5'.1 _ _ nkl hkm4
  have hK5:KU (A6 H4 l (.lst [.int x5,.bl b])) U kvs:=hK4.mono fun a xs e=>s5'.1 _ _ (gn e hx4 (by intro z;cases z)) e
  try dsimp -proj only[R7]
  generalize A6 H4 l (.lst [.int x5,.bl b])=H5 at s5 hkm5 hK5 s5'
  clear s5' hD4 hkm4 hK4 hx4 ok4
  rcases hK5.val (x:=one) with ⟨z0,_⟩|⟨ns,ka,hlk,hval,hka,hurn⟩
  ·exact absurd z0 (yn hin)
  obtain⟨hUn,m1,m4⟩:=ax hurn
  obtain⟨_,x6,hx6,ok6⟩:=id s5
  have dg:cG H5 km (.str one) (some (.ref ka)):=by
   have:=cG.k (k:=(C8 one:O4)) hkm5
   rw[hval] at this;exact this
  refine⟨_,rfl,_,rfl,km,_,rfl,dg,ka,_,rfl,.inr (.of hka),?_⟩
  refine⟨_,rfl,_,rfl,km,_,rfl,dg,ka,_,rfl,.inr (.of hka),?_⟩
  refine⟨_,rfl,l,4,x6,b,rfl,hx6,ok6,by decide,by decide,fun w0 x7 hw0 ok7=>⟨_,_,rfl,rfl,(by show 3<=i7;decide),fun pk hpk=>?_⟩⟩
  have s7:=s5.go ok7
  have k7:Kp l H5 (A6 H5 l (.lst [.int x7,.bl b])):=Kp.at
  have nkal:ka≠l:=gn hka hx6 (by intro z;cases z)
  have hka7:=k7 _ _ nkal hka
  have hkm7:=k7 _ _ nkl hkm5
  try dsimp -proj only
  generalize A6 H5 l (.lst [.int x7,.bl b])=H7 at s7 hka7 hkm7 hpk
  clear k7 hK5 hka hkm5 dg hx6 ok6
  rw[d8] at *
  have gk:n8 H7 (A6 H7 pk (.lst [.int (ns.length:Int),.int (ns.length:Int),.int (1+(w0:Int))])):=n8.new hpk
  have hpk':A6 H7 pk (.lst [.int (ns.length:Int),.int (ns.length:Int),.int (1+(w0:Int))]) pk=some (.lst [.int (ns.length:Int),.int (ns.length:Int),.int (1+(w0:Int))]):=j0
  have s8:=s7.same gk
  have hka8:=gk _ _ hka7
  have hkm8:=gk _ _ hkm7
  have npk:pk≠l:=(s7.ne hpk).symm
  try dsimp -proj only
  generalize A6 H7 pk (.lst [.int (ns.length:Int),.int (ns.length:Int),.int (1+(w0:Int))])=H8 at s8 hka8 hkm8 hpk'
  obtain⟨_,x8,hx8,ok8⟩:=id s8
  refine⟨_,rfl,l,3,x8,b,rfl,hx8,ok8,by decide,by decide,fun j x9 hj ok9=>?_⟩
  obtain⟨kd,d1,d4,hat⟩:∃kd:Nat,1<=kd/\kd<=4/\rV [V.int (ns.length:Int),.int (ns.length:Int),.int (1+(w0:Int))] (j:Int)=some (.int (kd:Int)):=by
   have ew:(1:Int)+(w0:Int)=((1+w0:Nat):Int):=by lia
   match j,hj with
   | 0,_=>exact⟨ns.length,m1,m4,rfl⟩
   | 1,_=>exact⟨ns.length,m1,m4,rfl⟩
   | 2,_=>exact⟨1+w0,by lia,by lia,by rw[ew];rfl⟩
  refine⟨pk,_,_,_,rfl,rfl,.of (Kp.at _ _ npk hpk'),hat,?_⟩
  have s9:=s8.go ok9
  have k9:Kp l H8 (A6 H8 l (.lst [.int x9,.bl b])):=Kp.at
  have hka9:=k9 _ _ nkal hka8
  have hkm9:=k9 _ _ nkl hkm8
  try dsimp -proj only[R7]
  generalize A6 H8 l (.lst [.int x9,.bl b])=H9 at s9 hka9 hkm9
  clear k9 hka8 hkm8 hpk' hka7 hkm7 gk hat hpk hx8 ok8
  obtain⟨_,xa,hxa,oka⟩:=id s9
  refine⟨_,rfl,_,rfl,l,kd,xa,b,rfl,hxa,oka,d1,d4,fun rv Ha rs sa' hrd hR=>?_⟩
  have sa:=s9.trans sa'
  have hkaa:=sa'.1 _ _ nkal hka9
  have hkma:=sa'.1 _ _ nkl hkm9
  try dsimp -proj only[R7]
  clear hka9 hkm9 sa'
  obtain⟨_,xb,hxb,okb⟩:=id sa
  have dga:cG Ha km (.str one) (some (.ref ka)):=by
   have:=cG.k (k:=(C8 one:O4)) hkma
   rw[hval] at this;exact this
  refine⟨_,rfl,_,rfl,_,rfl,km,_,rfl,dga,ka,_,rfl,.inr (.of hkaa),l,_,xb,b,rfl,hxb,okb,?_,?_,fun z1 xc hz1 okc=>?_⟩
  ·rw[d8];lia
  ·rw[d8];lia
  rw[d8] at hz1
  have sc:=sa.go okc
  have kc:Kp l Ha (A6 Ha l (.lst [.int xc,.bl b])):=Kp.at
  have hkac:=kc _ _ nkal hkaa
  have hkmc:=kc _ _ nkl hkma
  have hrdc:=hrd.kp kc
  try dsimp -proj only
  generalize A6 Ha l (.lst [.int xc,.bl b])=Hc at sc hkac hkmc hrdc
  clear kc hkaa hkma hrd dga
  obtain⟨_,xd,hxd,okd⟩:=id sc
  refine⟨_,rfl,l,10,xd,b,rfl,hxd,okd,by decide,by decide,fun z2 xe hz2 oke=>⟨(by show 2<=i7;decide),fun pm2 hpm2=>?_⟩⟩
  have se:=sc.go oke
  have ke:Kp l Hc (A6 Hc l (.lst [.int xe,.bl b])):=Kp.at
  have hkae:=ke _ _ nkal hkac
  have hkme:=ke _ _ nkl hkmc
  have hrde:=hrdc.kp ke
  generalize A6 Hc l (.lst [.int xe,.bl b])=He at se hkae hkme hrde hpm2
  clear ke hkac hkmc hrdc hxd okd
  have gm:n8 He (A6 He pm2 (.lst [.int (z1:Int),.int (z2:Int)])):=n8.new hpm2
  have hpm':A6 He pm2 (.lst [.int (z1:Int),.int (z2:Int)]) pm2=some (.lst [.int (z1:Int),.int (z2:Int)]):=j0
  have sf:=se.same gm
  have hkaf:=gm _ _ hkae
  have hkmf:=gm _ _ hkme
  have hrdf:=hrde.kp (gm.kp l)
  have npm:pm2≠l:=(se.ne hpm2).symm
  generalize A6 He pm2 (.lst [.int (z1:Int),.int (z2:Int)])=Hf0 at sf hkaf hkmf hrdf hpm'
  clear hkae hkme hrde gm hpm2
  obtain⟨_,xf,hxf,okf⟩:=id sf
  refine⟨_,rfl,l,2,xf,b,rfl,hxf,okf,by decide,by decide,fun j2 xg hj2 okg=>?_⟩
  obtain⟨k,k9,hat⟩:∃k:Nat,k<=9/\rV [V.int (z1:Int),.int (z2:Int)] (j2:Int)=some (.int (k:Int)):=by
   match j2,hj2 with
   | 0,_=>exact⟨z1,by lia,rfl⟩
   | 1,_=>exact⟨z2,by lia,rfl⟩
  refine⟨pm2,_,_,_,rfl,rfl,.of (Kp.at _ _ npm hpm'),hat,?_⟩
  have sg:=sf.go okg
  have kg:Kp l Hf0 (A6 Hf0 l (.lst [.int xg,.bl b])):=Kp.at
  have hkag:=kg _ _ nkal hkaf
  have hkmg:=kg _ _ nkl hkmf
  have hrdg:=hrdf.kp kg
  try dsimp -proj only[R7]
  generalize A6 Hf0 l (.lst [.int xg,.bl b])=Hg at sg hkag hkmg hrdg
  clear kg hkaf hkmf hrdf hxf okf hpm' hat
  refine⟨rfl,_,rfl,_,rfl,l,rv,rs,kd,rfl,hrdg,hR,d1,d4,fun Hh gh=>?_⟩
  have hrl:(rT rs).length<=52:=Fc (by rw[hR.len];lia) fun r hr=>⟨by rw[(hR.row r hr).len];lia,rl hR r hr⟩
  have hlogk:((k:Int)).natAbs.log2<1920:=vI (by lia) (by lia)
  refine⟨_,rfl,(k:Int),rfl,hlogk,_,rfl,(by show 5<=i7;decide),fun pj hpj=>?_⟩
  have gj:n8 Hh (A6 Hh pj (.lst [.str "draw",.str one,.str (rT rs),.str (M5 (toString (k:Int))),.str y])):=n8.new hpj
  have hpj':A6 Hh pj (.lst [.str "draw",.str one,.str (rT rs),.str (M5 (toString (k:Int))),.str y]) pj=some (.lst ((["draw",one,rT rs,tx (k:Int),y]:List Str).map V.str)):=j0
  refine⟨_,pj,["draw",one,rT rs,tx (k:Int),y],rfl,rfl,.of hpj',?_,?_⟩
  ·have hsl:=aW (m:=52) (ys:=["draw",one,rT rs,tx (k:Int),y]) fun z hz=>by
    simp only[C3,B6,or_false] at hz
    rcases hz with e|e|e|e|e
    ·rw[e];decide+kernel
    ·rw[e];have:=(Z9 hone).2.1;lia
    ·rw[e];exact hrl
    ·rw[e];have:=(mH (i:=(k:Int)) (by lia) (by lia)).2.2;lia
    ·rw[e];have:=(Z9 hy).2.1;lia
   have l1:(" ":Str).length=1:=by decide+kernel
   have big:1000<=i7:=by decide
   rw[l1]
   have:(["draw",one,rT rs,tx (k:Int),y]:List Str).length=5:=rfl
   rw[this] at hsl ⊢
   lia
  have hll:(D7 " " ["draw",one,rT rs,tx (k:Int),y]).length<=900:=by
   rw[len5]
   have a1:("draw":Str).length=4:=by decide+kernel
   have a2:=(Z9 hone).2.1
   have a3:=(Z9 hy).2.1
   have a4:=(mH (i:=(k:Int)) (by lia) (by lia)).2.2
   lia
  have hlin:=Fb hone hy hR d1 d4 k9
  generalize D7 " " ["draw",one,rT rs,tx (k:Int),y]=line at hll hlin
  have sh:=(sg.same gh).same gj
  have gg:=gh.trans gj
  have hkah:=gg _ _ hkag
  have hkmh:=gg _ _ hkmg
  have hrdh:=hrdg.kp (gg.kp l)
  try dsimp -proj only[R7]
  generalize A6 Hh pj (.lst [.str "draw",.str one,.str (rT rs),.str (M5 (toString (k:Int))),.str y])=Hm at sh hkah hkmh hrdh
  clear gj hpj' hpj gh hkag hkmg hrdg gg
  have hCTm:=hCT.kp hl sh.1
  obtain⟨psm,hTm,_⟩:=id hCTm
  refine⟨_,rfl,_,rfl,fun Zc=>⟨hCTm,fun f0 c0 ctv Hl hkl hCTl hfn hf0 hc0 Hf frz=>?_⟩⟩
  have nT1:∀{a:Addr}{o:HO},Hm a=some o->(∀ps,o≠.tbl ps)->a≠T:=fun {a o} h n e=>by
   rw[e,hTm] at h;injection h with h;exact n _ h.symm
  have hkal:=hkl _ _ (nT1 hkah (by intro ps z;cases z)) hkah
  have hkml:=hkl _ _ (nT1 hkmh (by intro ps z;cases z)) hkmh
  have hrdl:=uy hTm hkl hrdh
  refine jb (k:=11) (N:=["_law_kept","_law_one","_law_rule_here","_law_kind"]) (ix:=[some 1,some 5,some 7,some 8]) (o:=qP ns rs k) (Val:=fun v H'=>∃a,v=.ref a/\H' a=some (.tup ((Y8 ns (rs.getD k [])).map V.int))) Zc frz ⟨c0,ctv,hf0,hc0⟩ rfl rfl rfl rfl (by decide+kernel) rfl FR (fun _ _=>rfl) (fun v H1 H2 g ⟨a,e,h⟩=>⟨a,e,g _ _ h⟩)
   (fun Hz c1 A' outer' s' E1 Q1 hr' hz hO=>⟨_,iU (G1 C.after hr' rfl gW (b8 (gS (fq hr') (pv 0) (pv 1) (fun _ _=>rfl)) (b8 (pv 2) (b8 (pv 3) f7)))),?_⟩) (fun i hi Ho g=>?_) (fun hn v Ho g hv=>?_)
  ·have hkmz:=hz _ _ hkml
   have dgz:cG Hz km (.str one) (some (.ref ka)):=by
    have:=cG.k (k:=(C8 one:O4)) hkmz
    rw[hval] at this;exact this
   exact⟨_,rfl,_,rfl,km,_,rfl,dgz,_,rfl,_,rfl,BJ hurn (Dt.mkI nkal (hz _ _ hkal)) (hrdl.kp (hz.kp l)) (uk (yH hR d1 d4)) hO.cells⟩
  ·have gO:=frz.back g
   refine⟨(by show 3<=i7;decide),fun t ht=>?_⟩
   have gt:=gO.trans (n8.new (o:=.tup [.str line,.str y,.int (i:Int)]) ht)
   exact q t line y _ Hm _ sh (Kp.trans hkl (gt.kp T)) (hCTl.same gt) j0 hy hll (.inr ⟨one,ns,rs,k,hlk,hlin,.inl ⟨i,hi,rfl⟩⟩)
  ·obtain⟨pa,rfl,hpa⟩:=hv
   have gO:=frz.back g
   refine⟨(by show 3<=i7;decide),fun t ht=>?_⟩
   have gt:=gO.trans (n8.new (o:=.tup [.str line,.str y,.ref pa]) ht)
   exact q t line y _ Hm _ sh (Kp.trans hkl (gt.kp T)) (hCTl.same gt) j0 hy hll (.inr ⟨one,ns,rs,k,hlk,hlin,.inr ⟨hn,pa,rfl,n8.new ht _ _ (EI frz g hpa)⟩⟩)
 intro H3 s3
 obtain⟨_,x3,hx3,ok3⟩:=id s3
 refine⟨_,rfl,_,rfl,l,4,x3,b,rfl,hx3,ok3,by decide,by decide,fun n0 x4 hn ok4=>⟨_,_,rfl,rfl,?_⟩⟩
 have en:(1:Int)+(n0:Int)=((1+n0:Nat):Int):=by lia
 have s4:=s3.go ok4
 try dsimp only
 rw[en]
 generalize A6 H3 l (.lst [.int x4,.bl b])=H4 at s4
 obtain⟨_,x5,hx5,ok5⟩:=id s4
 refine⟨l,1+n0,x5,b,rfl,hx5,ok5,by lia,by lia,fun ua H5 ns s5' hua hUr=>?_⟩
 have s5:=s4.trans s5'
 have hyl:=Z9 hy
 have hnl:=HX hUr (by lia)
 have l4:("urn ":Str).length=4:=by decide+kernel
 have l1:(" ":Str).length=1:=by decide+kernel
 have big:1000<=i7:=by decide
 refine⟨_,rfl,_,_,rfl,rfl,?_,_,_,rfl,rfl,?_,_,rfl,ua,ns,rfl,hua,by rw[hUr.len];lia,fun z hz=>hUr.nn z hz,fun H6 g6=>⟨_,_,rfl,rfl,?_,_,rfl,_,rfl,(by show 3<=i7;decide),fun t ht=>?_⟩⟩
 ·rw[l4];lia
 ·rw[B4,l4,l1];lia
 ·rw[B4,B4,l4,l1];lia
 have ej:(("urn "++y)++" ")++nT ns=D7 " " ["urn",y,nT ns]:=by rw[JS];exact j3 _ _ _
 have gt:n8 H6 (A6 H6 t (.tup [.str ((("urn "++y)++" ")++nT ns),.str y,.ref ua])):=n8.new ht
 have g6t:=g6.trans gt
 refine q t _ y (.ref ua) _ _ (s5.same g6t) (Kp.refl _ _) (hCT.kp hl (s5.same g6t).1) j0 hy ?_ (.inl ⟨ua,ns,1+n0,rfl,g6t _ _ hua,hUr,by lia,by lia,?_⟩)
 ·rw[B4,B4,B4,l4,l1];lia
 ·rw[ej];exact HV hy hUr (by lia) (by lia)
end
end G
namespace G
open PySem PySem.Spec PyProof.Rows L2 Mt Md Mq
noncomputable def ur:gs->Option Nat
 | .no i=>some i
 | _=>none
noncomputable def yJ:gs->Str
 | .tx t=>t
 | _=>""
noncomputable def Bn:gs->Prop
 | .tx _=>True
 | .no i=>i<10
 | _=>False
theorem FQ (ns:List Int) (k:Nat):ai ns "chance" [.fig k]=if k<ns.length then .tx (fS (Mt.fZ ns k)) else .no 2:=by
 unfold ai
 rw[if_neg (by decide+kernel),if_pos rfl];rfl
theorem yI {a:Str} (ha:a="stands" ∨ a="mean") (ns:List Int) (rs:List (List Int)) (k:Nat) (h64:k<=6->K8 (ns.length:Int) (DR rs)=true->(je rs k [(ns,1)]).length<64):ai ns a [.rule rs,.fig k]=if K8 (ns.length:Int) (DR rs)=false then .no 1 else if 6<k then .no 5 else .tx (if a="stands" then tx ((je rs k [(ns,1)]).length:Int) else D7 " " ((uL rs ns k ns.length).map fS)):=by
 unfold ai
 rw[if_neg (by rcases ha with e|e <;> (rw[e];decide+kernel)),if_neg (by rcases ha with e|e <;> (rw[e];decide+kernel)),if_pos ha]
 show (if K8 (ns.length:Int) (DR rs)=false then gs.no 1 else if 6<k then .no 5 else if (je rs k [(ns,1)]).length<64 then _ else .any)=_
 by_cases hr:K8 (ns.length:Int) (DR rs)=false
 ·rw[if_pos hr,if_pos hr]
 ·rw[if_neg hr,if_neg hr]
  by_cases h6:6<k
  ·rw[if_pos h6,if_pos h6]
  ·rw[if_neg h6,if_neg h6,if_pos (h64 (by lia) (by simpa using hr))]
theorem FP (ns:List Int) (rs:List (List Int)):ai ns "fair" [.rule rs]=if K8 (ns.length:Int) (DR rs)=false then .no 1 else .tx (if gY rs ns 1 ns.length=gY rs ns 0 ns.length then "yes" else "no"):=by
 unfold ai
 rw[if_neg (by decide+kernel),if_neg (by decide+kernel),if_neg (by decide+kernel)];rfl
def IW (ns:List Int) (word words:Str) (due:V):Prop:=∃ds:List Wd,word.length<=6/\word≠"kept"/\word≠"urn"/\word≠"draw"/\words.length<=60/\(∀x,S3 x=true->de (D7 " " [word,x,words])=some (word,Wd.name x::ds)) /\
 ((∃i,i<10/\ai ns word ds=.no i/\due=.int (i:Int)) ∨ ∃t,ai ns word ds=.tx t/\due=.str t)
theorem uj {ns:List Int}{word words:Str}{ds:List Wd} (h1:word.length<=6) (h2:word≠"kept"/\word≠"urn"/\word≠"draw") (h3:words.length<=60) (hl:∀x,S3 x=true->de (D7 " " [word,x,words])=some (word,Wd.name x::ds)) (ht:Bn (ai ns word ds)):
  (∀i,ur (ai ns word ds)=some i->IW ns word words (.int i))/\(ur (ai ns word ds)=none->IW ns word words (.str (yJ (ai ns word ds)))):=by
 cases hr:ai ns word ds with
 | no i=>exact⟨fun j e=>⟨ds,h1,h2.1,h2.2.1,h2.2.2,h3,hl,.inl ⟨j,by rw[hr] at ht;cases e;exact ht,by cases e;exact hr,rfl⟩⟩,fun z=>by cases z⟩
 | tx t=>exact⟨(fun j e=>by cases e),fun _=>⟨ds,h1,h2.1,h2.2.1,h2.2.2,h3,hl,.inr ⟨t,hr,rfl⟩⟩⟩
 | put x n=>rw[hr] at ht;exact ht.elim
 | any=>rw[hr] at ht;exact ht.elim
theorem uq {r:gs} (h:Bn r):∀i,ur r=some i->i<10:=fun i e=>by
 cases r with
 | no j=>cases e;exact h
 | _=>cases e
theorem j4 (a x t u:Str):D7 " " [a,x,(t++" ")++u]=D7 " " [a,x,t,u]:=by
 rw[U6,U6]
 simp only[bD,rZ]
section
variable {c:Nat->Addr}{H:Hp}{ns:List Int}{rs:List (List Int)}{k:Nat}{st u:Addr}{v:V}{Q:VK}{E:XK}
theorem yD (hu:Q5 20 (DI ns)=true) (hd:Dt st H (DI ns) (.ref u)) (hO:wt c (fun v _=>v=.str (yJ (ai ns "chance" [.fig k]))) H Q E (ur (ai ns "chance" [.fig k]))) {E':XK}:fY c [.ref u,.int k] H (fun v H1=>jQ [v] H1 Q E') E:=by
 obtain⟨hU,n1,n4⟩:=ax hu
 rw[FQ] at hO
 by_cases hk:k<ns.length
 ·rw[if_pos hk] at hO
  have hs:ns.sum<10 ^ 574:=by
   have:=Mt.sum_le (m:=20) (fun x hx=>(hU.nn x hx).2)
   rw[hU.len] at this
   lia
  have hb:=FJ (N:=10 ^ 574) (hU.getD k).1 hU.pos (S1 (hU.getD k).2 (by decide)) hs
  exact .inr ⟨st,u,ns.length,k,ns,rfl,hd,hU,n1,n4,hk,fun p H1 g1 h1=>⟨p,_,_,rfl,h1,hb.1,hb.2.1,hb.2.2.1,hb.2.2.2,fun H2 g2=>hO _ H2 (g1.trans g2) rfl⟩⟩
 ·rw[if_neg hk] at hO
  refine .inl ⟨st,_,_,DI ns,.int k,2,rfl,hd,W0 (by lia),Dt.int _ _ _,.inr ⟨rfl,hu,?_⟩,hO⟩
  rw[V0]
  show (decide ((0:Int)<=k)&&decide ((k:Int)<=(ns.length:Int) - 1))=false
  rw[decide_eq_false (p:=(k:Int)<=(ns.length:Int) - 1) (by lia),aU]
theorem FA {a:Str} (ha:a="stands" ∨ a="mean") (hu:Q5 20 (DI ns)=true) (hd:Dt st H (DI ns) (.ref u)) (hv:Dt st H (DR rs) v) (h64:k<=6->K8 (ns.length:Int) (DR rs)=true->(je rs k [(ns,1)]).length<64)
  (hO:wt c (fun v _=>v=.str (yJ (ai ns a [.rule rs,.fig k]))) H Q E (ur (ai ns a [.rule rs,.fig k]))):
  (∃i,FY (DI ns) (DR rs) (.int (k:Nat)) i/\∀H',n8 H H'->E (.ref (c i)) none H') ∨ (BO st H ns.length ns rs k u v/\∀H',n8 H H'->Q (.str (if a="stands" then tx ((je rs k [(ns,1)]).length:Int) else D7 " " ((uL rs ns k ns.length).map fS))) H'):=by
 obtain⟨hU,n1,n4⟩:=ax hu
 rw[yI ha _ _ _ h64] at hO
 by_cases hr:K8 (ns.length:Int) (DR rs)=false
 ·rw[if_pos hr] at hO
  exact .inl ⟨1,.inr (.inl ⟨rfl,hu,by rw[V0];exact hr⟩),hO⟩
 ·rw[if_neg hr] at hO
  have hr1:K8 (ns.length:Int) (DR rs)=true:=by simpa using hr
  by_cases h6:6<k
  ·rw[if_pos h6] at hO
   refine .inl ⟨5,.inr (.inr ⟨rfl,hu,by rw[V0];exact hr1,?_⟩),hO⟩
   show (decide ((0:Int)<=k)&&decide ((k:Int)<=6))=false
   rw[decide_eq_false (p:=(k:Int)<=6) (by lia),aU]
  ·rw[if_neg h6] at hO
   exact .inr ⟨⟨hd,hU,hv,aH hr1,n1,n4,by lia,h64 (by lia) hr1⟩,fun H' g=>hO _ H' g rfl⟩
end
variable {D:nF}{σ:L2.St}{H:Hp}
theorem fm {N:L2.St->Hp->Prop}(h:N σ H):Jh { D with nx:=N } σ H:=h
theorem vC {N:L2.St->Hp->Prop}(h:N σ H):({ D with nx:=N }:nF).nx σ H:=h
theorem jq {t u:TS}(R:L2.St->Hp->Prop) (h1:∀N:L2.St->Hp->Prop,(∀σ' Hx,R σ' Hx->N σ' Hx)->t { D with nx:=N } σ H) (h2:∀σ' Hx,R σ' Hx->u D σ' Hx):kL t u D σ H:=h1 (u D) h2
abbrev Js:Str:=(("_law_asked":Str)++".<locals>.")++"<lambda>"
section
variable {P:i8}{w:t9}{K:j7}{mg:Str->Option b9}{base:Heap}{f:Addr}{fd:A9}
structure OX (P:i8) (w:t9) (K:j7) (mg:Str->Option b9) (base:Heap) (c:Nat->Addr):Prop where
 take:S6 P w K mg base 14 "_law_take" ["_law_state_here","_law_many"] fh
 rule:S6 P w K mg base 14 "_law_rule" ["_law_state_here","_law_kinds"] kP
 rt:S6 P w K mg base 14 "_law_rule_text" ["_law_rule_here"] zf
 made:S6 P w K mg base 14 "_law_made" ["_law_call"] (kO P w K mg base 12 c)
 ft:S6 P w K mg base 11 "_law_fraction_text" ["_law_part"] jQ
 ch:O9 P w K mg base 11 "chance" ["urn","kind"] (fY c)
 st:O9 P w K mg base 11 "stands" ["urn","rule","draws"] (rh c)
 mn:O9 P w K mg base 11 "mean" ["urn","rule","draws"] (zh c)
 fa:O9 P w K mg base 11 "is_fair" ["urn","rule"] (nQ c)
def xw (T:Addr):Sp:=fun vs H Q _=>∃(l ua:Addr) (x:Int) (b:Bool) (ns:List Int),vs=[.ref l,.ref ua]/\H l=some (.lst [.int x,.bl b])/\ly x b/\H ua=some (.tup (ns.map V.int))/\Q5 20 (DI ns)=true/\bJ Js T H /\
 ∀(t:Addr) (word words:Str) (due:V) (H1 H':Hp),ba l b H H1->Kp T H1 H'->bJ Js T H'->H' t=some (.tup [.str word,.str words,due])->IW ns word words due->Q (.ref t) H'
abbrev zr:Stmt:=top 81
theorem lN:B1 ["_law_state_here","_law_urn_here","_law_rule_here","_law_many","_law_way","_law_words"] ["_law_state_here","_law_urn_here"] (r6 zr):=⟨rfl,rfl,rfl,by decide+kernel,rfl,by decide+kernel,by decide+kernel⟩
theorem Lz {c:Nat->Addr}{T:Addr} (F:Y3 K "_law_asked" "_law_asked" zr f fd) (B:Bt mg) (B2:Gv mg) (C:OX P w K mg base c) (hcode:∃cc,fd.code=.ref cc/\ee K cc T=true) (hKb:K.In base) (hbm:base.BuiltinsAt mg T):G7 P w K mg base cQ 15 f fd ["_law_state_here","_law_urn_here"] (xw T):=by
 obtain⟨cc,hcc,hcd⟩:=hcode
 refine F.okC lN (fun vs H Q E h=>?_) (fun cdv A outer s H vs Q E hcv hr h=>?_)
 ·obtain⟨l,ua,x,b,ns,rfl,_⟩:=h
  rfl
 obtain⟨l,ua,x,b,ns,rfl,hl,ok,hua,hu,hCT,q⟩:=h
 have Z:∀(X:Cx),X.env.code=cdv->X.base=base->X.mg=mg->IU X T:=fun X e1 e2 e3=>⟨⟨cc,by rw[e1,<- hcv,hcc],by rw[e2];exact nK hKb hcd⟩,by rw[e2,e3];exact hbm⟩
 refine⟨_,(@j5 _ _ _ _ _ (@F7 _ _ 2 _ _ _ _ lN.nd rfl (bf rfl) (B0 C.rule hr rfl (@b8 _ _ _ _ _ (pv 0) (@b8 _ _ _ _ _ (@K5 _ _ _ _ _ _ _ K1 (@ag _ _ _ _ (@b8 _ _ _ _ _ (A1 E2 rfl B.len C9 (@b8 _ _ _ _ _ (pv 1) f7 (by rfl))) (@b8 _ _ _ _ _ (A1 E2 rfl B.len C9 (@b8 _ _ _ _ _ (pv 1) f7 (by rfl))) (@b8 _ _ _ _ _ (@J6 _ _ _ _ _ _ _ _ cE t8 (B0 C.take hr rfl (@b8 _ _ _ _ _ (pv 0) (@b8 _ _ _ _ _ t8 f7 (by rfl)) (by rfl)))) f7 (by rfl)) (by rfl)) (by rfl))) (B0 C.take hr rfl (@b8 _ _ _ _ _ (pv 0) (@b8 _ _ _ _ _ t8 f7 (by rfl)) (by rfl))) (fun _ _=>rfl)) f7 (by rfl)) (by rfl))) (by rfl) (by first|exact .inl rfl|exact .inr rfl))
  (@j5 _ _ _ _ _ (@F7 _ _ 3 _ _ _ _ lN.nd rfl (bf rfl) (@K5 _ _ _ _ _ _ _ K1 (@ag _ _ _ _ (@b8 _ _ _ _ _ (B0 C.take hr rfl (@b8 _ _ _ _ _ (pv 0) (@b8 _ _ _ _ _ t8 f7 (by rfl)) (by rfl))) (@b8 _ _ _ _ _ (B0 C.take hr rfl (@b8 _ _ _ _ _ (pv 0) (@b8 _ _ _ _ _ t8 f7 (by rfl)) (by rfl))) f7 (by rfl)) (by rfl))) (D9 gr rfl B.int jK (@b8 _ _ _ _ _ (lY (fj Z0 (B0 C.take hr rfl (@b8 _ _ _ _ _ (pv 0) (@b8 _ _ _ _ _ t8 f7 (by rfl)) (by rfl))) t8 (G0 _)) (lX (fj Eu (A1 E2 rfl B.len C9 (@b8 _ _ _ _ _ (pv 1) f7 (by rfl))) t8 (G0 _)))) f7 (by rfl))) (fun _ _=>rfl)) (by rfl) (by first|exact .inl rfl|exact .inr rfl))
  (@j5 _ _ _ _ _ (@F7 _ _ 4 _ _ _ _ lN.nd rfl (A4 rfl) (B0 C.take hr rfl (@b8 _ _ _ _ _ (pv 0) (@b8 _ _ _ _ _ t8 f7 (by rfl)) (by rfl))) (by rfl) (by first|exact .inl rfl|exact .inr rfl))
  (@j5 _ _ _ _ _ (K4 (@E4 _ _ _ _ _ _ _ _ Z0 (pv 4) t8 (G0 _)) (@n6 _ _ _ (A5 (@cC _ _ _ _ _ (@b8 _ _ _ _ _ D0 (@b8 _ _ _ _ _ (D9 N5 rfl B2.str aM (@b8 _ _ _ _ _ (pv 3) f7 (by rfl))) (@b8 _ _ _ _ _ (eM C.made hr rfl (@b8 _ _ _ _ _ (cD (Z _ rfl rfl rfl)) f7 (by rfl))) f7 (by rfl)) (by rfl)) (by rfl))))) D4)
  (@j5 _ _ _ _ _ (K4 (@E4 _ _ _ _ _ _ _ _ Z0 (pv 4) t8 (G0 _)) (@j5 _ _ _ _ _ (@F7 _ _ 5 _ _ _ _ lN.nd rfl (A4 rfl) (@J6 _ _ _ _ _ _ _ _ P6 (@J6 _ _ _ _ _ _ _ _ P6 (B0 C.rt hr rfl (@b8 _ _ _ _ _ (pv 2) f7 (by rfl))) D0) (D9 N5 rfl B2.str aM (@b8 _ _ _ _ _ (pv 3) f7 (by rfl)))) (by rfl) (by first|exact .inl rfl|exact .inr rfl))
  (@n6 _ _ _ (A5 (@cC _ _ _ _ _ (@b8 _ _ _ _ _ D0 (@b8 _ _ _ _ _ (pv 5) (@b8 _ _ _ _ _ (eM C.made hr rfl (@b8 _ _ _ _ _ (cD (Z _ rfl rfl rfl)) f7 (by rfl))) f7 (by rfl)) (by rfl)) (by rfl)))))) D4)
  (@j5 _ _ _ _ _ (K4 (@E4 _ _ _ _ _ _ _ _ Z0 (pv 4) t8 (G0 _)) (@j5 _ _ _ _ _ (@F7 _ _ 5 _ _ _ _ lN.nd rfl (A4 rfl) (@J6 _ _ _ _ _ _ _ _ P6 (@J6 _ _ _ _ _ _ _ _ P6 (B0 C.rt hr rfl (@b8 _ _ _ _ _ (pv 2) f7 (by rfl))) D0) (D9 N5 rfl B2.str aM (@b8 _ _ _ _ _ (pv 3) f7 (by rfl)))) (by rfl) (by first|exact .inl rfl|exact .inr rfl))
  (@n6 _ _ _ (A5 (@cC _ _ _ _ _ (@b8 _ _ _ _ _ D0 (@b8 _ _ _ _ _ (pv 5) (@b8 _ _ _ _ _ (eM C.made hr rfl (@b8 _ _ _ _ _ (cD (Z _ rfl rfl rfl)) f7 (by rfl))) f7 (by rfl)) (by rfl)) (by rfl)))))) D4)
  (@n6 _ _ _ (A5 (@cC _ _ _ _ _ (@b8 _ _ _ _ _ D0 (@b8 _ _ _ _ _ (B0 C.rt hr rfl (@b8 _ _ _ _ _ (pv 2) f7 (by rfl))) (@b8 _ _ _ _ _ (eM C.made hr rfl (@b8 _ _ _ _ _ (cD (Z _ rfl rfl rfl)) f7 (by rfl))) f7 (by rfl)) (by rfl)) (by rfl))))))))))),?_⟩
 obtain⟨hUn,m1,m4⟩:=ax hu
 have s0:ba l b H H:=ba.start hl ok
 have nual:ua≠l:=gn hua hl (by intro z;cases z)
 refine⟨_,rfl,_,rfl,ua,_,rfl,.inr (.of hua),_,rfl,ua,_,rfl,.inr (.of hua),_,rfl,l,4,x,b,rfl,hl,ok,by decide,by decide,fun w0 x7 hw0 ok7=>⟨_,_,rfl,rfl,(by show 3<=i7;decide),fun pk hpk=>?_⟩⟩
 have s7:=s0.go ok7
 have hua7:=Kp.at (o:=.lst [.int x7,.bl b]) _ _ nual hua
 try dsimp -proj only
 generalize A6 H l (.lst [.int x7,.bl b])=H7 at s7 hua7 hpk
 rw[d8] at *
 have gk:n8 H7 (A6 H7 pk (.lst [.int (ns.length:Int),.int (ns.length:Int),.int (1+(w0:Int))])):=n8.new hpk
 have hpk':A6 H7 pk (.lst [.int (ns.length:Int),.int (ns.length:Int),.int (1+(w0:Int))]) pk=some (.lst [.int (ns.length:Int),.int (ns.length:Int),.int (1+(w0:Int))]):=j0
 have s8:=s7.same gk
 have hua8:=gk _ _ hua7
 have npk:pk≠l:=(s7.ne hpk).symm
 try dsimp -proj only
 generalize A6 H7 pk (.lst [.int (ns.length:Int),.int (ns.length:Int),.int (1+(w0:Int))])=H8 at s8 hua8 hpk'
 obtain⟨_,x8,hx8,ok8⟩:=id s8
 refine⟨_,rfl,l,3,x8,b,rfl,hx8,ok8,by decide,by decide,fun j x9 hj ok9=>?_⟩
 obtain⟨kd,d1,d4,hat⟩:∃kd:Nat,1<=kd/\kd<=4/\rV [V.int (ns.length:Int),.int (ns.length:Int),.int (1+(w0:Int))] (j:Int)=some (.int (kd:Int)):=by
  have ew:(1:Int)+(w0:Int)=((1+w0:Nat):Int):=by lia
  match j,hj with
  | 0,_=>exact⟨ns.length,m1,m4,rfl⟩
  | 1,_=>exact⟨ns.length,m1,m4,rfl⟩
  | 2,_=>exact⟨1+w0,by lia,by lia,by rw[ew];rfl⟩
 refine⟨pk,_,_,_,rfl,rfl,.of (Kp.at _ _ npk hpk'),hat,?_⟩
 have s9:=s8.go ok9
 have hua9:=Kp.at (o:=.lst [.int x9,.bl b]) _ _ nual hua8
 try dsimp -proj only[R7]
 generalize A6 H8 l (.lst [.int x9,.bl b])=H9 at s9 hua9
 clear hua8 hpk' hua7 gk hat hpk hx8 ok8 s7 s8
 obtain⟨_,xa,hxa,oka⟩:=id s9
 refine⟨l,kd,xa,b,rfl,hxa,oka,d1,d4,fun rv Ha rs sa' hrd hR=>?_⟩
 have sa:=s9.trans sa'
 have huaa:=sa'.1 _ _ nual hua9
 try dsimp -proj only[R7]
 clear hua9 sa' s9
 obtain⟨_,xb,hxb,okb⟩:=id sa
 refine vC ?_
 refine jq (fun σ' Hx=>∃many:Nat,σ'=[some (.ref l),some (.ref ua),some rv,some (.int (many:Int)),none,none]/\many<=9/\(many<=3 ∨ ns.length<=2)/\ba l b H Hx/\Hx ua=some (.tup (ns.map V.int))/\Dt l Hx (DR rs) rv) (fun N hN=>?_) (fun σ' Hx h=>?_)
 ·refine⟨_,rfl,l,4,xb,b,rfl,hxb,okb,by decide,by decide,fun z1 xc hz1 okc=>?_⟩
  have sc:=sa.go okc
  have kc:Kp l Ha (A6 Ha l (.lst [.int xc,.bl b])):=Kp.at
  have huac:=kc _ _ nual huaa
  have hrdc:=hrd.kp kc
  try dsimp -proj only
  generalize A6 Ha l (.lst [.int xc,.bl b])=Hc at sc huac hrdc
  clear kc huaa hrd
  obtain⟨_,xd,hxd,okd⟩:=id sc
  refine⟨_,rfl,l,10,xd,b,rfl,hxd,okd,by decide,by decide,fun z2 xe hz2 oke=>⟨(by show 2<=i7;decide),fun pm2 hpm2=>?_⟩⟩
  have se:=sc.go oke
  have ke:Kp l Hc (A6 Hc l (.lst [.int xe,.bl b])):=Kp.at
  have huae:=ke _ _ nual huac
  have hrde:=hrdc.kp ke
  generalize A6 Hc l (.lst [.int xe,.bl b])=He at se huae hrde hpm2
  clear ke huac hrdc hxd okd
  have gm:n8 He (A6 He pm2 (.lst [.int (z1:Int),.int (z2:Int)])):=n8.new hpm2
  have hpm':A6 He pm2 (.lst [.int (z1:Int),.int (z2:Int)]) pm2=some (.lst [.int (z1:Int),.int (z2:Int)]):=j0
  have sf:=se.same gm
  have huaf:=gm _ _ huae
  have hrdf:=hrde.kp (gm.kp l)
  have npm:pm2≠l:=(se.ne hpm2).symm
  generalize A6 He pm2 (.lst [.int (z1:Int),.int (z2:Int)])=Hf0 at sf huaf hrdf hpm'
  clear huae hrde gm hpm2 se sc sa
  obtain⟨_,xf,hxf,okf⟩:=id sf
  refine⟨_,rfl,l,4,xf,b,rfl,hxf,okf,by decide,by decide,fun z3 xg hz3 okg=>?_⟩
  have sg:=sf.go okg
  have kg:Kp l Hf0 (A6 Hf0 l (.lst [.int xg,.bl b])):=Kp.at
  have huag:=kg _ _ nual huaf
  have hrdg:=hrdf.kp kg
  have hpmg:=kg _ _ npm hpm'
  try dsimp -proj only
  generalize A6 Hf0 l (.lst [.int xg,.bl b])=Hg at sg huag hrdg hpmg
  clear kg huaf hrdf hxf okf hpm'
  refine⟨rfl,_,rfl,?_⟩
  by_cases h0:(z3:Int)=0
  ·rw[decide_eq_true (congrArg V.int h0)]
   refine O2 ⟨_,rfl,ua,_,rfl,.inr (.of huag),_,_,rfl,rfl,.inr ⟨_,rfl,?_⟩⟩
   rw[d8]
   by_cases h3:((ns.length:Nat):Int)<3
   ·rw[decide_eq_true h3]
    exact⟨pm2,_,_,_,rfl,rfl,.of hpmg,F6 (j:=1) rfl,hN _ _ ⟨z2,rfl,by lia,.inr (by lia),sg,huag,hrdg⟩⟩
   ·rw[decide_eq_false h3]
    exact⟨pm2,_,_,_,rfl,rfl,.of hpmg,F6 (j:=0) rfl,hN _ _ ⟨z1,rfl,by lia,.inl (by lia),sg,huag,hrdg⟩⟩
  ·rw[decide_eq_false (fun z=>h0 (V.int.inj z))]
   exact N3 (.inr ⟨_,rfl,pm2,_,_,_,rfl,rfl,.of hpmg,F6 (j:=0) rfl,hN _ _ ⟨z1,rfl,by lia,.inl (by lia),sg,huag,hrdg⟩⟩)
 clear hxb okb sa huaa hrd
 obtain⟨k,e1,k9,hk3,sg,huag,hrdg⟩:=h
 rw[e1]
 clear e1
 obtain⟨_,xg,hxg,okg⟩:=id sg
 have h64:k<=6->K8 (ns.length:Int) (DR rs)=true->(Mq.je rs k [(ns,1)]).length<64:=fun k6 hr1=>Mq.Mn (aH hr1) m4 hUn k6 (Mq.Mm m1 m4 (by split <;> lia)).1
 have END:∀(word words:Str) (due:V) (Hm Hl Hx:Hp),ba l b H Hm->Kp T Hm Hl->bJ Js T Hl->n8 Hl Hx->IW ns word words due->(3<=i7/\∀p,Hx p=none->Q (.ref p) (A6 Hx p (.tup [.str word,.str words,due]))):=fun word words due Hm Hl Hx sm kl cl g hA=>⟨by decide,fun t ht=>q t word words due Hm _ sm (Kp.trans kl ((g.trans (n8.new ht)).kp T)) (cl.same (g.trans (n8.new ht))) j0 hA⟩
 refine⟨_,rfl,l,4,xg,b,rfl,hxg,okg,by decide,by decide,fun way xh hw okh=>?_⟩
 have sh:=sg.go okh
 have kh:Kp l Hx (A6 Hx l (.lst [.int xh,.bl b])):=Kp.at
 have huah:=kh _ _ nual huag
 have hrdh:=hrdg.kp kh
 try dsimp -proj only[R7]
 generalize A6 Hx l (.lst [.int xh,.bl b])=Hh at sh huah hrdh
 clear kh huag hrdg hxg okg sg
 have hlogk:((k:Int)).natAbs.log2<1920:=vI (by lia) (by lia)
 have tk:=mH (i:=(k:Int)) (by lia) (by lia)
 have hrl:(rT rs).length<=52:=Fc (by rw[hR.len];lia) fun r hr=>⟨by rw[(hR.row r hr).len];lia,rl hR r hr⟩
 have big:1000<=i7:=by decide
 have l1:(" ":Str).length=1:=by decide+kernel
 have hok2:=uk (yH hR d1 d4)
 have kT:∀{Hm Hl:Hp},bJ Js T Hm->Kp T Hm Hl->Hm ua=some (.tup (ns.map V.int))->Dt l Hm (DR rs) rv->Hl ua=some (.tup (ns.map V.int))/\Dt l Hl (DR rs) rv:=fun {Hm Hl} c kk h1 h2=>by
  obtain⟨psm,hTm,_⟩:=id c
  exact⟨kk _ _ (fun z=>by rw[z,hTm] at h1;cases h1) h1,uy hTm kk h2⟩
 refine⟨_,rfl,rfl,_,rfl,?_⟩
 by_cases w0:(way:Int)=0
 ·rw[decide_eq_true (congrArg V.int w0)]
  have ht:Bn (ai ns "chance" [.fig k]):=by
   rw[FQ]
   split
   ·exact trivial
   ·exact(by decide:2<10)
  have ask:=uj (words:=tx (k:Int)) (by decide+kernel) ⟨by decide+kernel,by decide+kernel,by decide+kernel⟩ (by have:=tk.2.2;lia) (fun x hx=>yp hx k9) ht
  have hCTm:=hCT.kp hl sh.1
  refine O2 ⟨_,rfl,(k:Int),rfl,hlogk,fun Zc=>⟨hCTm,fun f0 c0 ctv Hl hkl hCTl hfn hf0 hc0 Hf frz=>?_⟩⟩
  obtain⟨hual,hrdl⟩:=kT hCTm hkl huah hrdh
  refine jb (k:=11) (N:=["_law_urn_here","_law_many"]) (ix:=[some 1,some 3]) (o:=ur (ai ns "chance" [.fig k])) (Val:=fun v _=>v=.str (yJ (ai ns "chance" [.fig k]))) Zc frz ⟨c0,ctv,hf0,hc0⟩ rfl rfl rfl rfl (by decide+kernel) rfl (uq ht) (fun _ _=>rfl) (fun _ _ _ _ h=>h)
   (fun Hz c1 A' outer' s' E1 Q1 hr' hz hO=>⟨_,iU (B0 C.ft hr' rfl (b8 (G1 C.ch hr' rfl gW (b8 (pv 0) (b8 (pv 1) f7))) f7)),?_⟩) (fun i hi Ho g=>END _ _ _ _ _ _ sh hkl hCTl (frz.back g) (ask.1 i hi)) (fun hn v Ho g hv=>?_)
  ·exact⟨_,rfl,_,rfl,yD (E':=E0) hu (Dt.mkI nual (hz _ _ hual)) hO.cells⟩
  ·cases hv
   exact END _ _ _ _ _ _ sh hkl hCTl (frz.back g) (ask.2 hn)
 rw[decide_eq_false (fun z=>w0 (V.int.inj z))]
 refine N3 ⟨_,rfl,rfl,_,rfl,?_⟩
 by_cases w1:(way:Int)=1
 ·rw[decide_eq_true (congrArg V.int w1)]
  have ht:Bn (ai ns "stands" [.rule rs,.fig k]):=by
   rw[yI (.inl rfl) _ _ _ h64]
   split
   ·exact(by decide:1<10)
   ·split
    ·exact(by decide:5<10)
    ·exact trivial
  have ask:=uj (words:=(rT rs++" ")++tx (k:Int)) (by decide+kernel) ⟨by decide+kernel,by decide+kernel,by decide+kernel⟩ (by rw[B4,B4,l1];have:=tk.2.2;lia) (fun x hx=>by rw[j4];exact EX (.inl rfl) hx hR d1 d4 k9) ht
  refine O2 ⟨_,rfl,l,rv,rs,kd,rfl,hrdh,hR,d1,d4,fun Hi gi=>⟨_,_,rfl,rfl,?_,_,rfl,(k:Int),rfl,hlogk,_,_,rfl,rfl,?_,?_⟩⟩
  ·rw[l1];lia
  ·have:=tk.2.2;show _+(tx (k:Int)).length<=_;rw[B4,l1];lia
  try dsimp -proj only[R7]
  have hCTm:=hCT.kp hl (sh.same gi).1
  refine⟨_,rfl,fun Zc=>⟨hCTm,fun f0 c0 ctv Hl hkl hCTl hfn hf0 hc0 Hf frz=>?_⟩⟩
  obtain⟨hual,hrdl⟩:=kT hCTm hkl (gi _ _ huah) (hrdh.kp (gi.kp l))
  refine jb (k:=11) (N:=["_law_urn_here","_law_rule_here","_law_many"]) (ix:=[some 1,some 2,some 3]) (o:=ur (ai ns "stands" [.rule rs,.fig k])) (Val:=fun v _=>v=.str (yJ (ai ns "stands" [.rule rs,.fig k]))) Zc frz ⟨c0,ctv,hf0,hc0⟩ rfl rfl rfl rfl (by decide+kernel) rfl (uq ht) (fun _ _=>rfl) (fun _ _ _ _ h=>h)
   (fun Hz c1 A' outer' s' E1 Q1 hr' hz hO=>⟨_,iU (D9 N5 rfl B2.str aM (b8 (A1 E2 rfl B.len C9 (b8 (G1 C.st hr' rfl gW (b8 (pv 0) (b8 (pv 1) (b8 (pv 2) f7)))) f7)) f7)),?_⟩) (fun i hi Ho g=>END _ _ _ _ _ _ (sh.same gi) hkl hCTl (frz.back g) (ask.1 i hi)) (fun hn v Ho g hv=>?_)
  ·refine⟨_,rfl,_,rfl,_,rfl,?_⟩
   have hdz:=Dt.mkI nual (hz _ _ hual)
   have hrz:=hrdl.kp (hz.kp l)
   rcases FA (.inl rfl) hu hdz hrz h64 hO.cells with ⟨i,due,qq⟩|⟨hA,qq⟩
   ·exact .inl ⟨l,_,_,_,DI ns,DR rs,.int k,i,rfl,hdz,W0 (by lia),hrz,hok2,Dt.int _ _ _,due,qq⟩
   ·rw[if_pos rfl] at qq
    refine .inr ⟨l,ua,rv,_,k,ns,rs,rfl,hA,fun D zs T' H1 g1 hT hD hB=>?_⟩
    have hzl:zs.length=(Mq.je rs k [(ns,1)]).length:=by rw[<- hT.length_eq];exact hB.len
    refine⟨D,_,rfl,.inl (.of hD),_,rfl,?_⟩
    rw[hzl]
    exact⟨mT (au _) (S1 (Int.ofNat_le.mpr (aq hA.l64)) (by decide+kernel)),qq H1 g1⟩
  ·cases hv
   exact END _ _ _ _ _ _ (sh.same gi) hkl hCTl (frz.back g) (ask.2 hn)
 rw[decide_eq_false (fun z=>w1 (V.int.inj z))]
 refine N3 ⟨_,rfl,rfl,_,rfl,?_⟩
 by_cases w2:(way:Int)=2
 ·rw[decide_eq_true (congrArg V.int w2)]
  have ht:Bn (ai ns "mean" [.rule rs,.fig k]):=by
   rw[yI (.inr rfl) _ _ _ h64]
   split
   ·exact(by decide:1<10)
   ·split
    ·exact(by decide:5<10)
    ·exact trivial
  have ask:=uj (words:=(rT rs++" ")++tx (k:Int)) (by decide+kernel) ⟨by decide+kernel,by decide+kernel,by decide+kernel⟩ (by rw[B4,B4,l1];have:=tk.2.2;lia) (fun x hx=>by rw[j4];exact EX (.inr rfl) hx hR d1 d4 k9) ht
  refine O2 ⟨_,rfl,l,rv,rs,kd,rfl,hrdh,hR,d1,d4,fun Hi gi=>⟨_,_,rfl,rfl,?_,_,rfl,(k:Int),rfl,hlogk,_,_,rfl,rfl,?_,?_⟩⟩
  ·rw[l1];lia
  ·have:=tk.2.2;show _+(tx (k:Int)).length<=_;rw[B4,l1];lia
  try dsimp -proj only[R7]
  have hCTm:=hCT.kp hl (sh.same gi).1
  refine⟨_,rfl,fun Zc=>⟨hCTm,fun f0 c0 ctv Hl hkl hCTl hfn hf0 hc0 Hf frz=>?_⟩⟩
  obtain⟨hual,hrdl⟩:=kT hCTm hkl (gi _ _ huah) (hrdh.kp (gi.kp l))
  refine jb (k:=11) (N:=["_law_urn_here","_law_rule_here","_law_many"]) (ix:=[some 1,some 2,some 3]) (o:=ur (ai ns "mean" [.rule rs,.fig k])) (Val:=fun v _=>v=.str (yJ (ai ns "mean" [.rule rs,.fig k]))) Zc frz ⟨c0,ctv,hf0,hc0⟩ rfl rfl rfl rfl (by decide+kernel) rfl (uq ht) (fun _ _=>rfl) (fun _ _ _ _ h=>h)
   (fun Hz c1 A' outer' s' E1 Q1 hr' hz hO=>⟨_,iU (cZ D2 L7 L6 dR D0 (b8 (O1 (N:=["_law_one"]) (ix:=[none]) (ifs:=[]) (tc:=T5) rfl (jV (G1 C.mn hr' rfl gW (b8 (pv 0) (b8 (pv 1) (b8 (pv 2) f7)))))
    (fun s H ex=>bz (i:=0) (by decide+kernel) rfl (A4 rfl) (.inr rfl)) (fun s H ex=>L8) (fun s H ex=>(B0 C.ft hr' rfl (b8 (pv 0) f7))) rfl (by decide+kernel) (by rfl) (by rfl) (fun _=>rfl)) f7)),?_⟩) (fun i hi Ho g=>END _ _ _ _ _ _ (sh.same gi) hkl hCTl (frz.back g) (ask.1 i hi)) (fun hn v Ho g hv=>?_)
  ·refine⟨rfl,_,rfl,_,rfl,_,rfl,?_⟩
   have hdz:=Dt.mkI nual (hz _ _ hual)
   have hrz:=hrdl.kp (hz.kp l)
   rcases FA (.inr rfl) hu hdz hrz h64 hO.cells with ⟨i,due,qq⟩|⟨hA,qq⟩
   ·exact .inl ⟨l,_,_,_,DI ns,DR rs,.int k,i,rfl,hdz,W0 (by lia),hrz,hok2,Dt.int _ _ _,due,qq⟩
   ·rw[if_neg (by decide+kernel)] at qq
    refine .inr ⟨l,ua,rv,_,k,ns,rs,rfl,hA,fun p xs H1 g1 hx hF=>⟨p,rfl,⟨_,.of hx⟩,?_⟩⟩
    have hw:=Jr hA.ru hA.n4 hA.uu hA.k6
    have hxl:=hF.len
    have hml:(uL rs ns k ns.length).length=ns.length:=by unfold uL;rw[d8,aF]
    generalize uL rs ns k ns.length=qs at hw hF hxl hml qq
    refine ic (K:=K) (a:=p) (xs:=xs) (sz (by lia)) (fun j ys H2=>n8 H1 H2/\ys=((qs.take j).map fS).map V.str/\ys.length=j) ⟨n8.refl _,rfl,rfl⟩ (fun j ys H2 h=>h.2.2) (fun j ys H2 _ h=>.of (h.1 _ _ hx)) rfl (fun j ys H2 z hz h=>?_) (fun ys H2 h=>?_)
    ·obtain⟨g2,hy,hyl⟩:=h
     obtain⟨x,hx',r,er,hr'⟩:=hF.get hz
     subst er
     obtain⟨w0,w1,w2⟩:=hw x (y8 hx')
     refine⟨_,rfl,r,x.num,x.den,rfl,g2 _ _ hr',w0,w1,au _,w2,fun H3 g3=>⟨g2.trans g3,?_,by rw[y6,hyl];rfl⟩⟩
     rw[hy,D1,hx',w5,w5]
     rfl
    ·obtain⟨g2,hy,hyl⟩:=h
     rw[hxl,J4 (i9 _)] at hy
     subst hy
     intro pj hpj
     have hsl:=aW (m:=1149) (ys:=qs.map fS) fun z hz=>by
      obtain⟨x,hx',e⟩:=List.mem_map.mp hz
      obtain⟨w0,w1,w2⟩:=hw x hx'
      rw[<- e];exact Fd w0 w1 w2
     rw[d8] at hsl
     refine⟨_,pj,qs.map fS,rfl,rfl,.of j0,?_,qq _ ((g1.trans g2).trans (n8.new hpj))⟩
     rw[d8,l1]
     lia
  ·cases hv
   exact END _ _ _ _ _ _ (sh.same gi) hkl hCTl (frz.back g) (ask.2 hn)
 rw[decide_eq_false (fun z=>w2 (V.int.inj z))]
 have ht:Bn (ai ns "fair" [.rule rs]):=by
  rw[FP]
  split
  ·exact(by decide:1<10)
  ·exact trivial
 have ask:=uj (words:=rT rs) (by decide+kernel) ⟨by decide+kernel,by decide+kernel,by decide+kernel⟩ (by lia) (fun x hx=>EZ hx hR d1 d4) ht
 refine N3 ⟨_,rfl,l,rv,rs,kd,rfl,hrdh,hR,d1,d4,fun Hi gi=>?_⟩
 have hCTm:=hCT.kp hl (sh.same gi).1
 refine fun Zc=>⟨hCTm,fun f0 c0 ctv Hl hkl hCTl hfn hf0 hc0 Hf frz=>?_⟩
 obtain⟨hual,hrdl⟩:=kT hCTm hkl (gi _ _ huah) (hrdh.kp (gi.kp l))
 refine jb (k:=11) (N:=["_law_urn_here","_law_rule_here"]) (ix:=[some 1,some 2]) (o:=ur (ai ns "fair" [.rule rs])) (Val:=fun v _=>v=.str (yJ (ai ns "fair" [.rule rs]))) Zc frz ⟨c0,ctv,hf0,hc0⟩ rfl rfl rfl rfl (by decide+kernel) rfl (uq ht) (fun _ _=>rfl) (fun _ _ _ _ h=>h)
  (fun Hz c1 A' outer' s' E1 Q1 hr' hz hO=>⟨_,iU (K5 K1 (ag (b8 D0 (b8 D0 f7))) (D9 gr rfl B.int jK (b8 (G1 C.fa hr' rfl gW (b8 (pv 0) (b8 (pv 1) f7))) f7)) (fun _ _=>rfl)),?_⟩) (fun i hi Ho g=>END _ _ _ _ _ _ (sh.same gi) hkl hCTl (frz.back g) (ask.1 i hi)) (fun hn v Ho g hv=>?_)
 ·refine⟨by show 2<=i7;decide,fun pl hpl=>⟨_,rfl,_,rfl,?_⟩⟩
  have gl:n8 Hz (A6 Hz pl (.lst [.str "no",.str "yes"])):=n8.new hpl
  have hpl':A6 Hz pl (.lst [.str "no",.str "yes"]) pl=some (.lst [.str "no",.str "yes"]):=j0
  try dsimp -proj only
  generalize A6 Hz pl (.lst [.str "no",.str "yes"])=Hy at gl hpl'
  have hdz:=Dt.mkI nual (gl _ _ (hz _ _ hual))
  have hrz:=(hrdl.kp (hz.kp l)).kp (gl.kp l)
  have hO':=hO.cells
  rw[FP] at hO'
  by_cases hr1:K8 (ns.length:Int) (DR rs)=false
  ·rw[if_pos hr1] at hO'
   exact .inl ⟨l,_,_,DI ns,DR rs,1,rfl,hdz,W0 (by lia),hrz,hok2,.inr ⟨rfl,hu,by rw[V0];exact hr1⟩,fun H2 g2=>hO' H2 (gl.trans g2)⟩
  ·rw[if_neg hr1] at hO'
   refine .inr ⟨l,ua,rv,_,ns,rs,rfl,⟨hdz,hUn,hrz,aH (by simpa using hr1),m1,m4⟩,fun H1 g1=>.inr ⟨_,rfl,?_⟩⟩
   by_cases e:gY rs ns 1 ns.length=gY rs ns 0 ns.length
   ·rw[decide_eq_true e]
    rw[if_pos e] at hO'
    exact⟨pl,_,_,_,rfl,rfl,.of (g1 _ _ hpl'),F6 (j:=1) rfl,hO' _ H1 (gl.trans g1) rfl⟩
   ·rw[decide_eq_false e]
    rw[if_neg e] at hO'
    exact⟨pl,_,_,_,rfl,rfl,.of (g1 _ _ hpl'),F6 (j:=0) rfl,hO' _ H1 (gl.trans g1) rfl⟩
 ·cases hv
  exact END _ _ _ _ _ _ (sh.same gi) hkl hCTl (frz.back g) (ask.2 hn)
end
end G
namespace G
open PySem PySem.Spec PyProof.Rows L2 Mt
abbrev lq:Str:=(("law":Str)++".<locals>.")++"<lambda>"
section
variable {X:Cx}{params:bP}{body:Expr}{scope:M8}{H H':Hp}{f0 T p:Addr}
theorem zM {σ:L2.St}{Hf:Hp}{N:List Str}{ix:List (Option Nat)}{k i0:Nat}{c:Nat->Addr}{Q:VK}
  (Zc:wx X) (fz:ky X σ H Hf) (hL:JE X params body scope H f0) (hfr:Y1 scope X.env=true) (k1:scope.kind=.function) (k2:scope.isCoroutine=false) (k3:scope.isGenerator=false) (k4:∀x∈scope.names,x.2≠.cell) (hx:eZ scope X.N N ix=true) (hi:i0<10)
  (hba:∀c0 ctv,fG (PH "<lambda>" (pO X) params body scope (Q6 X.env scope.names []) ((X.mg "__name__").getD .none) (.ref c0) ctv) ⟨[],[]⟩=pure [])
  (hrun:∀(c0:Addr) (A':y7) (outer':List Env) (s':f6) (E1:XK) (Q1:VK),Y9 k (A'.deeper (lD (pO X) scope s'.heap.objs.size f0 (.ref c0) (Q6 X.env scope.names [])))->n8 H (bH (Q6 X.env scope.names []) Hf)->(∀H'',n8 (bH (Q6 X.env scope.names []) Hf) H''->E1 (.ref (c i0)) none H'') ->
   ∃t,PE (qc X.prog X.w X.K X.mg X.base N (pO X) scope f0 (.ref c0) (Q6 X.env scope.names []) A' outer' s' (bH (Q6 X.env scope.names []) Hf) E1) body t/\t (aA ix σ) (bH (Q6 X.env scope.names []) Hf) Q1)
  (q:∀H',n8 Hf H'->Q (.int i0) H'):eG X.prog X.w X.K X.mg X.base (k+1) c [.ref f0] Hf Q E0:=by
 obtain⟨c0,ctv,hf0,oc,ovs,ot,hoc,hod1,hod2⟩:=hL
 refine⟨f0,Jj X.prog X.w X.K X.mg X.base k f0 c0 _ _ _ _ _ _ _ _ N,_,_,some i0,rfl,fz.same _ _ hf0,rfl,hba c0 ctv,fnL (Zc.lsc hfr k1 k2 k3 k4) (fun _ _ _ _ h=>h),(fun i' e=>by cases e;exact hi),fun Q' E' ho=>?_,q⟩
 refine⟨rfl,fz.same _ _ hf0,⟨oc,ovs,ot,fz.same _ _ hoc,hod1,hod2⟩,Zc.celk hfr fz,_,Zc.st hfr fz hx,fun A' outer' s' hr'=>?_⟩
 exact hrun c0 A' outer' s' _ _ hr' (fz.inner Zc hfr) fun H'' g=>ho _ (tQ g)
end
theorem KU.any {H:Hp}{x:Str}:∀{U:List (Str × List Int)}{kvs:List (O4 × V)},KU H U kvs->(kvs.any fun kv=>decide (kv.1=C8 x))=U.any fun r=>decide (r.1=x)
 | [],kvs,h=>by rw[show kvs=[] from h];rfl
 | (y,ns)::U,_,⟨a,r,e,_,_,h3⟩=>by
  rw[e,aw,aw,KU.any h3]
  congr 1
  exact decide_eq_decide.mpr ⟨fun z=>by injection z,fun z=>by rw[show y=x from z]⟩
theorem KU.snoc {H:Hp}{x:Str}{a:Addr}{ns:List Int} (ha:H a=some (.tup (ns.map V.int))) (hu:Q5 20 (DI ns)=true):∀{U:List (Str × List Int)}{kvs:List (O4 × V)},KU H U kvs->KU H (U++[(x,ns)]) (kvs++[(C8 x,.ref a)])
 | [],kvs,h=>by rw[show kvs=[] from h];exact⟨a,[],rfl,ha,hu,rfl⟩
 | (y,ms)::U,_,⟨b,r,e,h1,h2,h3⟩=>by rw[e];exact⟨b,_,rfl,h1,h2,KU.snoc ha hu h3⟩
theorem KU.but {H:Hp}{m:Addr}{o:HO} (hm:∀xs,H m≠some (.tup xs)):∀{U:List (Str × List Int)}{kvs:List (O4 × V)},KU H U kvs->KU (A6 H m o) U kvs
 | [],_,h=>h
 | (_,_)::_,_,⟨a,r,e,h1,h2,h3⟩=>⟨a,r,e,by rw[v9 (fun z=>hm _ (z ▸ h1))];exact h1,h2,KU.but hm h3⟩
variable {T m:Addr}{H:Hp}
theorem gp {q:Str}{k:List (O4 × V)}{o:HO} (h:bJ q T H) (hm:H m=some (.dK k)):bJ q T (A6 H m o):=by
 obtain⟨qs,h1,h2,h3⟩:=h
 refine⟨qs,by rw[v9 (fun z=>by rw[z,hm] at h1;cases h1)];exact h1,h2,fun pos v e=>?_⟩
 obtain⟨c,oc,vs,t,e1,e2,e3,e4⟩:=h3 pos v e
 exact⟨c,oc,vs,t,e1,by rw[v9 (fun z=>by rw[z,hm] at e2;cases e2)];exact e2,e3,e4⟩
variable {K:j7}{a:Addr}
theorem Ae {xs:List V}{k:List (O4 × V)}{o:HO} (hm:H m=some (.dK k)) (h:fM K H a xs):fM K (A6 H m o) a xs:=by
 rcases h with (h|⟨o',h⟩)|h
 ·exact .inl (.inl (by rw[v9 (fun z=>by rw[z,hm] at h;cases h)];exact h))
 ·exact .inl (.inr ⟨o',by rw[v9 (fun z=>by rw[z,hm] at h;cases h)];exact h⟩)
 ·exact .inr h
theorem FT {H':Hp}{xs:List V} (g:n8 H H') (h:fM K H a xs):fM K H' a xs:=by
 rcases h with (h|⟨o',h⟩)|h
 ·exact .inl (.inl (g _ _ h))
 ·exact .inl (.inr ⟨o',g _ _ h⟩)
 ·exact .inr h
noncomputable def oW (U:List (Str × List Int)) (x:Str) (ns:List Int):List (Str × List Int):=if (U.any fun r=>decide (r.1=x))=true then U.map (fun r=>if r.1=x then (r.1,ns) else r) else U++[(x,ns)]
theorem KU.repl {H:Hp}{x:Str}{a:Addr}{ns:List Int} (ha:H a=some (.tup (ns.map V.int))) (hu:Q5 20 (DI ns)=true):∀{U:List (Str × List Int)}{kvs:List (O4 × V)},KU H U kvs->KU H (U.map fun r=>if r.1=x then (r.1,ns) else r) (kvs.map fun kv=>if kv.1=C8 x then (kv.1,.ref a) else kv)
 | [],kvs,h=>by rw[show kvs=[] from h];rfl
 | (y,ms)::U,_,⟨b,r,e,h1,h2,h3⟩=>by
  rw[e,r9,r9]
  have ih:=KU.repl (x:=x) ha hu h3
  by_cases hy:y=x
  ·rw[if_pos (show (C8 y:O4)=C8 x by rw[hy]),if_pos hy]
   exact⟨a,_,rfl,ha,hu,ih⟩
  ·rw[if_neg (show ¬ (C8 y:O4)=C8 x from fun z=>hy (by injection z)),if_neg hy]
   exact⟨b,_,rfl,h1,h2,ih⟩
variable {x:Str}{ns:List Int}{U:List (Str × List Int)}
theorem KU.put {kvs:List (O4 × V)} (h:KU H U kvs) (ha:H a=some (.tup (ns.map V.int))) (hu:Q5 20 (DI ns)=true):KU H (oW U x ns) (putK kvs (C8 x) (.ref a)):=by
 unfold putK oW
 rw[h.any]
 split
 ·exact h.repl ha hu
 ·exact h.snoc ha hu
theorem DT :(oW U x ns).length<=U.length+1:=by
 unfold oW
 split
 ·rw[d8];lia
 ·rw[y6];exact i9 _
theorem Hv :oW U x ns≠[]:=by
 unfold oW
 split
 ·rename_i h
  intro z
  rw[Cp] at z
  rw[z] at h;cases h
 ·simp
theorem Hu (h:∀r∈U,S3 r.1=true) (hx:S3 x=true):∀r∈oW U x ns,S3 r.1=true:=fun r hr=>by
 unfold oW at hr
 split at hr
 ·obtain⟨q,hq,e⟩:=List.mem_map.mp hr
  rw[<- e]
  split
  ·exact h q hq
  ·exact h q hq
 ·rcases List.mem_append.mp hr with e|e
  ·exact h r e
  ·rw[List.mem_singleton.mp e];exact hx
variable {line y:Str}
theorem GX (h:de line=some (("urn":Str),[Wd.name y,Wd.urn ns])) (hu:Q5 20 (DI ns)=true):lO U (.str line)=.put y ns:=by
 show (match de line with|none=>gs.no 9|some (a,ds)=>iL U a ds)=_
 rw[h]
 show iL U "urn" [Wd.name y,Wd.urn ns]=_
 unfold iL
 rw[if_neg (by decide+kernel)]
 show (if ("urn":Str)="urn" then (match CG [Wd.urn ns] with|some ns=>if Q5 20 (DI ns)=true then gs.put y ns else .any|none=>.any) else _)=_
 rw[if_pos rfl]
 show (if Q5 20 (DI ns)=true then gs.put y ns else .any)=_
 rw[if_pos hu]
theorem Dq {rs:List (List Int)}{k:Nat} (h:de line=some (("draw":Str),[Wd.name x,Wd.rule rs,Wd.fig k,Wd.name y])) (hl:Cc U x=some ns):lO U (.str line)=match qP ns rs k with|some i=>.no i|none=>if Q5 20 (DI (Y8 ns (rs.getD k [])))=true then .put y (Y8 ns (rs.getD k [])) else .tx "full":=by
 show (match de line with|none=>gs.no 9|some (a,ds)=>iL U a ds)=_
 rw[h]
 show iL U "draw" [Wd.name x,Wd.rule rs,Wd.fig k,Wd.name y]=_
 unfold iL
 rw[if_neg (by decide+kernel)]
 show (if ("draw":Str)="urn" then _ else match Cc U x with|none=>gs.no 0|some ns=>_)=_
 rw[if_neg (by decide+kernel),hl]
 show (if ("draw":Str)="draw" then (if K8 (ns.length:Int) (DR rs)=false then gs.no 1 else if k<ns.length then (if ns.getD k 0=0 then .no 3 else if Q5 20 (DI (Y8 ns (rs.getD k [])))=true then .put y (Y8 ns (rs.getD k [])) else .tx "full") else .no 2) else _)=_
 rw[if_pos rfl]
 unfold qP
 by_cases h1:K8 (ns.length:Int) (DR rs)=false
 ·rw[if_pos h1,if_pos h1]
 ·rw[if_neg h1,if_neg h1]
  by_cases h2:k<ns.length
  ·rw[if_pos h2,if_pos h2]
   by_cases h3:ns.getD k 0=0
   ·rw[if_pos h3,if_pos h3]
   ·rw[if_neg h3,if_neg h3]
  ·rw[if_neg h2,if_neg h2]
theorem zp {word:Str}{ds:List Wd}(h:de line=some (word,Wd.name x::ds)) (w1:word≠"kept") (w2:word≠"urn") (w3:word≠"draw") (hl:Cc U x=some ns):lO U (.str line)=ai ns word ds:=by
 show (match de line with|none=>gs.no 9|some (a,ds)=>iL U a ds)=_
 rw[h]
 show iL U word (Wd.name x::ds)=_
 unfold iL
 rw[if_neg w1]
 show (if word="urn" then _ else match Cc U x with|none=>gs.no 0|some ns=>_)=_
 rw[if_neg w2,hl]
 show (if word="draw" then _ else ai ns word ds)=_
 rw[if_neg w3]
theorem vm (U:List (Str × List Int)):lO U (.str "kept")=.tx (D7 " " (sG (U.map (·.1)))):=by
 show (match de "kept" with|none=>gs.no 9|some (a,ds)=>iL U a ds)=_
 rw[EY]
 show iL U "kept" []=_
 unfold iL
 rw[if_pos rfl]
theorem Dp (hx:S3 x=true) (hl:Cc U x=some ns):lO U (.str ("show "++x))=.tx (nT ns):=by
 have e:("show ":Str)++x=D7 " " ["show",x]:=by
  rw[U6,bD,rZ]
  rw[show ("show ":Str)="show"++" " from by decide+kernel]
 rw[e,zp (EW hx) (by decide+kernel) (by decide+kernel) (by decide+kernel) hl]
 unfold ai
 rw[if_pos rfl]
structure Wk (K:j7) (CD a d m e m2 kp T TL TA:Addr) (scr:List Int) (U1 U2:List (Str × List Int)) (kv1 kv2:List (O4 × V)) (H:Hp):Prop where
 sq:fM K H a (scr.map V.int)
 ct:bJ lq T H
 cl:bJ MR TL H
 ca:bJ Js TA H
 dk:∃dx,H d=some (.ins CD dx [("urns_by_name",.ref m)])
 mm:H m=some (.dK kv1)
 ku:KU H U1 kv1
 bk:∃dx,H e=some (.ins CD dx [("urns_by_name",.ref m2)])
 bb:H m2=some (.dK [])
 kk:H kp=some (.dK kv2)
 k2:KU H U2 kv2
def Fixd (o:HO):Prop:=(∀x b,o≠.lst [.int x,.bl b])/\∀ps,o≠.tbl ps
theorem OB {x:Int}{b:Bool}(h:ns.map V.int=[V.int x,V.bl b]):False:=by
 cases ns with
 | nil=>cases h
 | cons n ns =>
  cases ns with
  | nil=>cases h
  | cons m ns=>cases h
theorem fw {q:Str}{T':Addr}{H':Hp}{ps:Array b9} (h:bJ q T H) (hT:H T'=some (.tbl ps)) (ne:T≠T') (k:Kp T' H H'):bJ q T H':=by
 obtain⟨qs,h1,h2,h3⟩:=h
 refine⟨qs,k _ _ ne h1,h2,fun pos v e=>?_⟩
 obtain⟨c,oc,vs,t,e1,e2,e3,e4⟩:=h3 pos v e
 exact⟨c,oc,vs,t,e1,k _ _ (fun z=>by rw[z,hT] at e2;cases e2) e2,e3,e4⟩
section
variable {K:j7}{CD a d m e m2 kp T TL TA l:Addr}{scr:List Int}{U1 U2:List (Str × List Int)}{kv1 kv2:List (O4 × V)}{H H':Hp}{b:Bool}
theorem Wk.mono (h:Wk K CD a d m e m2 kp T TL TA scr U1 U2 kv1 kv2 H) (g:∀z o,Fixd o->H z=some o->H' z=some o) (c1:bJ lq T H') (c2:bJ MR TL H') (c3:bJ Js TA H'):Wk K CD a d m e m2 kp T TL TA scr U1 U2 kv1 kv2 H':=by
 obtain⟨sq,_,_,_,⟨dx,dk⟩,mm,ku,⟨ex,bk⟩,bb,kk,k2⟩:=h
 have gt:∀z xs,H z=some (.tup xs)->H' z=some (.tup xs):=fun z xs h=>g _ _ ⟨nofun,nofun⟩ h
 refine⟨?_,c1,c2,c3,⟨dx,g _ _ ⟨nofun,nofun⟩ dk⟩,g _ _ ⟨nofun,nofun⟩ mm,ku.mono gt,⟨ex,g _ _ ⟨nofun,nofun⟩ bk⟩,g _ _ ⟨nofun,nofun⟩ bb,g _ _ ⟨nofun,nofun⟩ kk,k2.mono gt⟩
 rcases sq with (h|⟨o,h⟩)|h
 ·exact .inl (.inl (g _ _ ⟨fun x b z=>OB (HO.lst.inj z),(by intro ps z;cases z)⟩ h))
 ·exact .inl (.inr ⟨o,g _ _ ⟨nofun,nofun⟩ h⟩)
 ·exact .inr h
theorem Wk.same (h:Wk K CD a d m e m2 kp T TL TA scr U1 U2 kv1 kv2 H) (g:n8 H H'):Wk K CD a d m e m2 kp T TL TA scr U1 U2 kv1 kv2 H':=h.mono (fun z o _ e=>g _ _ e) (h.ct.same g) (h.cl.same g) (h.ca.same g)
theorem Wk.sta {x:Int} (h:Wk K CD a d m e m2 kp T TL TA scr U1 U2 kv1 kv2 H) (hl:H l=some (.lst [.int x,.bl b])) (g:ba l b H H'):Wk K CD a d m e m2 kp T TL TA scr U1 U2 kv1 kv2 H':=h.mono (fun z o f e=>g.1 _ _ (fun q=>by rw[q,hl] at e;injection e with e;exact f.1 _ _ e.symm) e) (h.ct.kp hl g.1) (h.cl.kp hl g.1) (h.ca.kp hl g.1)
theorem Wk.kpT {T':Addr}{ps:Array b9} (h:Wk K CD a d m e m2 kp T TL TA scr U1 U2 kv1 kv2 H) (hT:H T'=some (.tbl ps)) (k:Kp T' H H') (c1:bJ lq T H') (c2:bJ MR TL H') (c3:bJ Js TA H'):Wk K CD a d m e m2 kp T TL TA scr U1 U2 kv1 kv2 H':=h.mono (fun z o f e=>k _ _ (fun q=>by rw[q,hT] at e;injection e with e;exact f.2 _ e.symm) e) c1 c2 c3
theorem Wk.putD {y:Str}{ns:List Int}{u:Addr} (h:Wk K CD a d m e m2 kp T TL TA scr U1 U2 kv1 kv2 H) (n1:m≠m2) (n2:m≠kp) (hu:H u=some (.tup (ns.map V.int))) (ok:Q5 20 (DI ns)=true):Wk K CD a d m e m2 kp T TL TA scr (oW U1 y ns) U2 (putK kv1 (C8 y) (.ref u)) kv2 (A6 H m (.dK (putK kv1 (C8 y) (.ref u)))):=by
 obtain⟨sq,ct,cl,ca,⟨dx,dk⟩,mm,ku,⟨ex,bk⟩,bb,kk,k2⟩:=h
 have nt:∀xs,H m≠some (.tup xs):=fun xs z=>by rw[mm] at z;cases z
 exact⟨Ae mm sq,gp ct mm,gp cl mm,gp ca mm,⟨dx,by rw[v9 (fun z=>by rw[z,mm] at dk;cases dk)];exact dk⟩,j0,(ku.put hu ok).but nt,⟨ex,by rw[v9 (fun z=>by rw[z,mm] at bk;cases bk)];exact bk⟩,by rw[v9 n1.symm];exact bb,by rw[v9 n2.symm];exact kk,k2.but nt⟩
theorem Wk.putK {y:Str}{ns:List Int}{u:Addr} (h:Wk K CD a d m e m2 kp T TL TA scr U1 U2 kv1 kv2 H) (n1:kp≠m2) (n2:m≠kp) (hu:H u=some (.tup (ns.map V.int))) (ok:Q5 20 (DI ns)=true):Wk K CD a d m e m2 kp T TL TA scr U1 (oW U2 y ns) kv1 (L2.putK kv2 (C8 y) (.ref u)) (A6 H kp (.dK (L2.putK kv2 (C8 y) (.ref u)))):=by
 obtain⟨sq,ct,cl,ca,⟨dx,dk⟩,mm,ku,⟨ex,bk⟩,bb,kk,k2⟩:=h
 have nt:∀xs,H kp≠some (.tup xs):=fun xs z=>by rw[kk] at z;cases z
 exact⟨Ae kk sq,gp ct kk,gp cl kk,gp ca kk,⟨dx,by rw[v9 (fun z=>by rw[z,kk] at dk;cases dk)];exact dk⟩,by rw[v9 n2];exact mm,ku.but nt,⟨ex,by rw[v9 (fun z=>by rw[z,kk] at bk;cases bk)];exact bk⟩,by rw[v9 n1.symm];exact bb,j0,(k2.put hu ok).but nt⟩
end
section
variable {K:j7}{CD a d m e m2 kp T TL TA:Addr}{scr:List Int}{U1 U2:List (Str × List Int)}{kv1 kv2:List (O4 × V)}{H:Hp}{ec:Nat->Addr}{line:Str}{Q:VK}{E:XK}
theorem Wk.say (W:Wk K CD a d m e m2 kp T TL TA scr U1 U2 kv1 kv2 H) (h50:U1.length<=50) (hnm:∀r∈U1,S3 r.1=true) (hl:line.length<=900) (q:Res ec H Q E (fun x ns=>∀a H',n8 H H'->H' a=some (.tup (ns.map V.int))->Q (.str "ok") (A6 H' m (.dK (L2.putK kv1 (C8 x) (.ref a))))) (lO U1 (.str line))):ow CD ec [.ref d,.str line] H Q E:=by
 obtain⟨dx,hd⟩:=W.dk
 exact⟨d,m,kv1,U1,.str line,.str line,rfl,⟨dx,hd,W.mm⟩,W.ku,h50,fun r hr=>(Z9 (hnm r hr)).2.1,Dt.str _ _ _,(fun t' e=>by cases e;exact hl),q⟩
end
theorem zK (hb:Q5 20 (DI ns)=true):ns≠[]/\∀z∈ns,z<=20:=by
 obtain⟨hU,n1,_⟩:=ax hb
 exact⟨fun z=>by rw[z] at n1;simp at n1,fun z hz=>(hU.nn z hz).2⟩
theorem EV {kvs:List (O4 × V)}{u:V}(hK:KU H U kvs) (h:JD U line y u H):(∃i:Nat,i<10/\u=.int (i:Int)/\U≠[]/\lO U (.str line)=.no i) ∨
  ∃ua ns,u=.ref ua/\H ua=some (.tup (ns.map V.int))/\ns≠[]/\((Q5 20 (DI ns)=true/\lO U (.str line)=.put y ns) ∨ ((∃z∈ns,(20:Int)<z)/\U≠[]/\lO U (.str line)=.tx "full")):=by
 rcases h with ⟨ua,ns,n,rfl,hua,hUr,n1,n4,hlin⟩|⟨x,ns,rs,k,hlk,hlin,hA⟩
 ·have hu:=gG hUr n1 n4
  exact .inr ⟨ua,ns,rfl,hua,(zK hu).1,.inl ⟨hu,GX hlin hu⟩⟩
 have hne:U≠[]:=fun z=>by rw[z] at hlk;cases hlk
 have hs:=Dq hlin hlk
 rcases hA with ⟨i,hi,rfl⟩|⟨hn,ua,rfl,hua⟩
 ·rw[hi] at hs
  exact .inl ⟨i,FR i hi,rfl,hne,hs⟩
 rw[hn] at hs
 rcases hK.val (x:=x) with ⟨z,_⟩|⟨ns',b,z1,_,_,hur⟩
 ·rw[z] at hlk;cases hlk
 rw[hlk] at z1
 cases z1
 obtain⟨hU,n1,n4⟩:=ax hur
 have hk:K8 (ns.length:Int) (DR rs)=true/\k<ns.length:=by
  unfold qP at hn
  split at hn
  ·cases hn
  ·rename_i h1
   split at hn
   ·rename_i h2
    exact⟨by simpa using h1,h2⟩
   ·cases hn
 have hA:=hU.add ((aH hk.1).at hk.2)
 have hne2:Y8 ns (rs.getD k [])≠[]:=fun z=>by have:=hA.len;rw[z] at this;simp at this;lia
 refine .inr ⟨ua,_,rfl,hua,hne2,?_⟩
 cases hb:Q5 20 (DI (Y8 ns (rs.getD k []))) with
 | true=>rw[hb] at hs;exact .inl ⟨rfl,hs⟩
 | false =>
  rw[hb] at hs
  refine .inr ⟨?_,hne,hs⟩
  refine Classical.byContradiction fun hc=>?_
  have:Mt.gx ns.length 20 (Y8 ns (rs.getD k [])):=⟨hA.len,fun z hz=>⟨(hA.nn z hz).1,Int.not_lt.mp fun h=>hc ⟨z,hz,h⟩⟩,hA.pos⟩
  rw[gG this n1 n4] at hb
  cases hb
theorem rM {CD d dx:Addr} (hd0:H d=none) (hdx0:H dx=none) (hm:A6 (A6 H dx (.own d)) d (.ins CD dx []) m=none):∃H1,n8 H H1/\H1 d=some (.ins CD dx [("urns_by_name",.ref m)])/\H1 m=some (.dK [])/\H m=none/\H1=A6 (A6 (A6 (A6 H dx (.own d)) d (.ins CD dx [])) m (.dK [])) d (.ins CD dx [("urns_by_name",.ref m)]):=by
 have m1:m≠d:=fun z=>by rw[z,j0] at hm;cases hm
 have m2:m≠dx:=fun z=>by rw[v9 m1,z,j0] at hm;cases hm
 have hm0:H m=none:=by rwa [v9 m1,v9 m2] at hm
 refine⟨_,fun b o e=>?_,j0,by rw[v9 m1,j0],hm0,rfl⟩
 rw[v9 (u9 e hd0),v9 (u9 e hm0),v9 (u9 e hd0),v9 (u9 e hdx0)]
 exact e
section
variable {P:i8}{w:t9}{K:j7}{mg:Str->Option b9}{base:Heap}{f:Addr}{fd:A9}{CD:Addr}
structure Cals (P:i8) (w:t9) (K:j7) (mg:Str->Option b9) (base:Heap) (c:Nat->Addr) (CD TL TA:Addr):Prop where
 state:S6 P w K mg base 15 "_law_state" ["_law_script","_law_k"] (ou K)
 line:S6 P w K mg base 15 "_law_line" ["_law_state_here","_law_kept"] (xv TL)
 asked:S6 P w K mg base 15 "_law_asked" ["_law_state_here","_law_urn_here"] (xw TA)
 take:S6 P w K mg base 15 "_law_take" ["_law_state_here","_law_many"] fh
 ut:S6 P w K mg base 15 "_law_urn_text" ["_law_urn_here"] mK
 refused:S6 P w K mg base 15 "_law_refused" ["_law_call"] (eG P w K mg base 12 c)
 desk:BM P w K mg base CD 14 "Desk" ["self"] (sL CD)
 say:jF P w K mg base CD 15 "say" ["self","line"] (ow CD c)
 say11:jF P w K mg base CD 11 "say" ["self","line"] (ow CD c)
def zi (K:j7) (T TL TA:Addr):Sp:=fun vs H Q _=>∃(a:Addr) (ns:List Int),vs=[.ref a]/\fM K H a (ns.map V.int)/\ns.length<=63/\bJ lq T H/\bJ MR TL H/\bJ Js TA H/\∀H',Q (.bl true) H'
abbrev oK:Stmt:=top 82
theorem bw:B1 ["_law_script","_law_desk","_law_beside","_law_kept","_law_k","_law_state_here","_law_line_here","_law_name_here","_law_urn_here","_law_names","_law_one","_law_word","_law_words","_law_due"] ["_law_script"] (r6 oK):=⟨rfl,rfl,rfl,by decide+kernel,rfl,by decide+kernel,by decide+kernel⟩
theorem Ly {c:Nat->Addr}{T TL TA:Addr} (F:Y3 K "law" "law" oK f fd) (B:Bt mg) (B3:Nb mg) (D:rX K CD) (C:Cals P w K mg base c CD TL TA) (hn1:T≠TL) (hn2:T≠TA) (hn3:TL≠TA) (hcode:∃cc,fd.code=.ref cc/\ee K cc T=true) (hKb:K.In base) (hbm:base.BuiltinsAt mg T):G7 P w K mg base cQ 16 f fd ["_law_script"] (zi K T TL TA):=by
 obtain⟨cc,hcc,hcd⟩:=hcode
 refine F.okC bw (fun vs H Q E h=>?_) (fun cdv A outer s H vs Q E hcv hr h=>?_)
 ·obtain⟨a,ns,rfl,_⟩:=h
  rfl
 obtain⟨a,scr,rfl,hS,h63,hCT,hCL,hCA,q⟩:=h
 have Z:∀(X:Cx),X.env.code=cdv->X.base=base->X.mg=mg->IU X T:=fun X e1 e2 e3=>⟨⟨cc,by rw[e1,<- hcv,hcc],by rw[e2];exact nK hKb hcd⟩,by rw[e2,e3];exact hbm⟩
 refine⟨_,(@j5 _ _ _ _ _ (@F7 _ _ 1 _ _ _ _ bw.nd rfl (bf rfl) (Ed C.desk hr rfl) (by rfl) (by first|exact .inl rfl|exact .inr rfl))
  (@j5 _ _ _ _ _ (@F7 _ _ 2 _ _ _ _ bw.nd rfl (A4 rfl) (Ed C.desk hr rfl) (by rfl) (by first|exact .inl rfl|exact .inr rfl))
  (@j5 _ _ _ _ _ (@F7 _ _ 3 _ _ _ _ bw.nd rfl (A4 rfl) zD (by rfl) (by first|exact .inl rfl|exact .inr rfl))
  (@j5 _ _ _ _ _ (lV Z6 rfl (U3 rfl B.range (@b8 _ _ _ _ _ (A1 (BE rfl) rfl B.max boot_max (@b8 _ _ _ _ _ t8 (@b8 _ _ _ _ _ (A1 (BD rfl) rfl B.min boot_min (@b8 _ _ _ _ _ (A1 E2 rfl B.len C9 (@b8 _ _ _ _ _ (pv 0) f7 (by rfl))) (@b8 _ _ _ _ _ t8 f7 (by rfl)) (by rfl))) f7 (by rfl)) (by rfl))) f7 (by rfl))) (R4 (i:=4) bw.nd rfl (A4 rfl))
  (@j5 _ _ _ _ _ (@F7 _ _ 5 _ _ _ _ bw.nd rfl (A4 rfl) (B0 C.state hr rfl (@b8 _ _ _ _ _ (pv 0) (@b8 _ _ _ _ _ (pv 4) f7 (by rfl)) (by rfl))) (by rfl) (by first|exact .inl rfl|exact .inr rfl))
  (@j5 _ _ _ _ _ (iT (B0 C.line hr rfl (@b8 _ _ _ _ _ (pv 5) (@b8 _ _ _ _ _ (pv 3) f7 (by rfl)) (by rfl))) (jW rfl (L9 (R4 (i:=6) bw.nd rfl (bf rfl)) (L9 (R4 (i:=7) bw.nd rfl (A4 rfl)) (L9 (R4 (i:=8) bw.nd rfl (A4 rfl)) bQ)))))
  (@j5 _ _ _ _ _ (K4 (az (A1 (df tY) rfl B.isinstance E3 (@b8 _ _ _ _ _ (pv 8) (@b8 _ _ _ _ _ (gU rfl B.int jK) f7 (by rfl)) (by rfl)))) (@n6 _ _ _ (K4 (@E4 _ _ _ _ _ _ _ _ iW (eM C.refused hr rfl (@b8 _ _ _ _ _ (cD (Z _ rfl rfl rfl)) f7 (by rfl))) (pv 8) (G0 _)) (@n6 _ _ _ (A5 iV)) D4)) (@n6 _ _ _ (K4 (@E4 _ _ _ _ _ _ _ _ iW (cY (pv 1) D.cls C.say hr lZ (@b8 _ _ _ _ _ (pv 6) f7 (by rfl))) (@K5 _ _ _ _ _ _ _ K1 (@ag _ _ _ _ (@b8 _ _ _ _ _ D0 (@b8 _ _ _ _ _ D0 f7 (by rfl)) (by rfl))) (D9 gr rfl B.int jK (@b8 _ _ _ _ _ (fj zG (A1 (lu rfl) rfl B.max boot_max (@b8 _ _ _ _ _ (pv 8) f7 (by rfl))) t8 (G0 _)) f7 (by rfl))) (fun _ _=>rfl)) (G0 _)) (@n6 _ _ _ (A5 iV)) D4)))
  (@j5 _ _ _ _ _ (K4 (PW.pt (DS (az (A1 (df tX) rfl B.isinstance E3 (@b8 _ _ _ _ _ (pv 8) (@b8 _ _ _ _ _ (gU rfl B.tuple R3) f7 (by rfl)) (by rfl)))) (zA (@E4 _ _ _ _ _ _ _ _ Eu (A1 (lu rfl) rfl B.max boot_max (@b8 _ _ _ _ _ (pv 8) f7 (by rfl))) t8 (G0 _))))) (@n6 _ _ _ (tF (fq hr) (pv 3) (pv 7) (pv 8) rfl)) D4)
  (@j5 _ _ _ _ _ (@F7 _ _ 9 _ _ _ _ bw.nd rfl (A4 rfl) (A1 (kq rfl) rfl B3.sorted fA (@b8 _ _ _ _ _ (pv 3) f7 (by rfl))) (by rfl) (by first|exact .inl rfl|exact .inr rfl))
  (@j5 _ _ _ _ _ (K4 (@E4 _ _ _ _ _ _ _ _ iW (cY (pv 1) D.cls C.say hr lZ (@b8 _ _ _ _ _ D0 f7 (by rfl))) (cZ D2 L7 L6 dR D0 (@b8 _ _ _ _ _ (pv 9) f7 (by rfl))) (G0 _)) (@n6 _ _ _ (A5 iV)) D4)
  (@j5 _ _ _ _ _ (@F7 _ _ 10 _ _ _ _ bw.nd rfl (A4 rfl) (@K5 _ _ _ _ _ _ _ K1 (pv 9) (B0 C.take hr rfl (@b8 _ _ _ _ _ (pv 5) (@b8 _ _ _ _ _ (A1 E2 rfl B.len C9 (@b8 _ _ _ _ _ (pv 9) f7 (by rfl))) f7 (by rfl)) (by rfl))) (fun _ _=>rfl)) (by rfl) (by first|exact .inl rfl|exact .inr rfl))
  (@j5 _ _ _ _ _ (iT (B0 C.asked hr rfl (@b8 _ _ _ _ _ (pv 5) (@b8 _ _ _ _ _ (gS (fq hr) (pv 3) (pv 10) (fun _ _=>rfl)) f7 (by rfl)) (by rfl))) (jW rfl (L9 (R4 (i:=11) bw.nd rfl (A4 rfl)) (L9 (R4 (i:=12) bw.nd rfl (A4 rfl)) (L9 (R4 (i:=13) bw.nd rfl (A4 rfl)) bQ)))))
  (@j5 _ _ _ _ _ (@F7 _ _ 6 _ _ _ _ bw.nd rfl (bf rfl) (@J6 _ _ _ _ _ _ _ _ P6 (@J6 _ _ _ _ _ _ _ _ P6 (@J6 _ _ _ _ _ _ _ _ P6 (@J6 _ _ _ _ _ _ _ _ P6 (pv 11) D0) (pv 10)) D0) (pv 12)) (by rfl) (by first|exact .inl rfl|exact .inr rfl))
  (@j5 _ _ _ _ _ (K4 (az (A1 (df tY) rfl B.isinstance E3 (@b8 _ _ _ _ _ (pv 13) (@b8 _ _ _ _ _ (gU rfl B.int jK) f7 (by rfl)) (by rfl)))) (@n6 _ _ _ (K4 (@E4 _ _ _ _ _ _ _ _ iW (eM C.refused hr rfl (@b8 _ _ _ _ _ (cD (Z _ rfl rfl rfl)) f7 (by rfl))) (pv 13) (G0 _)) (@n6 _ _ _ (A5 iV)) D4)) (@n6 _ _ _ (K4 (@E4 _ _ _ _ _ _ _ _ iW (cY (pv 1) D.cls C.say hr lZ (@b8 _ _ _ _ _ (pv 6) f7 (by rfl))) (pv 13) (G0 _)) (@n6 _ _ _ (A5 iV)) D4)))
  (@n6 _ _ _ (K4 (@E4 _ _ _ _ _ _ _ _ iW (cY (pv 1) D.cls C.say hr lZ (@b8 _ _ _ _ _ (@J6 _ _ _ _ _ _ _ _ P6 D0 (pv 10)) f7 (by rfl))) (B0 C.ut hr rfl (@b8 _ _ _ _ _ (gS (fq hr) (pv 3) (pv 10) (fun _ _=>rfl)) f7 (by rfl))) (G0 _)) (@n6 _ _ _ (A5 iV)) D4)))))))))))))
  (@n6 _ _ _ (A5 (fj Z0 (cY (pv 2) D.cls C.say hr lZ (@b8 _ _ _ _ _ D0 f7 (by rfl))) D0 (G0 _)))))))),?_⟩
 intro d dx hd0 hdx0 hne
 refine⟨d,dx,rfl,j0,fun m hm=>⟨rfl,?_⟩⟩
 obtain⟨H1,g1,hd1,hm1,_,e1⟩:=rM (CD:=CD) hd0 hdx0 hm
 show kL _ _ _ _ (A6 (A6 (A6 (A6 H dx (.own d)) d (.ins CD dx [])) m (.dK [])) d (.ins CD dx [("urns_by_name",.ref m)]))
 rw[<- e1]
 clear e1 hd0 hdx0 hne hm
 intro e ex he0 hex0 hne
 refine⟨e,ex,rfl,j0,fun m2 hm2=>⟨rfl,?_⟩⟩
 obtain⟨H2,g2,he2,hm2',hmn,e2⟩:=rM (CD:=CD) he0 hex0 hm2
 show kL _ _ _ _ (A6 (A6 (A6 (A6 H1 ex (.own e)) e (.ins CD ex [])) m2 (.dK [])) e (.ins CD ex [("urns_by_name",.ref m2)]))
 rw[<- e2]
 have nmm:m≠m2:=u9 hm1 hmn
 clear e2 he0 hex0 hne hm2 hmn
 intro kp hkp
 have W:Wk K CD a d m e m2 kp T TL TA scr [] [] [] [] (A6 H2 kp (.dK [])):=by
  have g:=(g1.trans g2).trans (n8.new (o:=.dK []) hkp)
  have g3:n8 H2 (A6 H2 kp (.dK [])):=n8.new hkp
  exact⟨FT g hS,hCT.same g,hCL.same g,hCA.same g,⟨dx,g3 _ _ (g2 _ _ hd1)⟩,g3 _ _ (g2 _ _ hm1),rfl,⟨ex,g3 _ _ he2⟩,g3 _ _ hm2',j0,rfl⟩
 have nmk:m≠kp:=u9 (g2 _ _ hm1) hkp
 have nkm:kp≠m2:=(u9 hm2' hkp).symm
 show kL _ _ _ _ (A6 H2 kp (.dK []))
 generalize A6 H2 kp (.dK [])=H3 at W
 clear hkp hm2' he2 hm1 hd1 g1 g2 hS hCT hCL hCA
 refine⟨_,rfl,a,_,rfl,.inl W.sq,_,_,rfl,_,_,rfl,_,rfl,?_,?_,?_⟩
 ·split <;> split <;> lia
 ·rw[d8];split <;> split <;> lia
 refine mv (lo:=0) (fun i σ H=>∃U kv1 kv2,Wk K CD a d m e m2 kp T TL TA scr U U kv1 kv2 H/\U.length<=i/\(∀r∈U,S3 r.1=true)/\∃o4 o5 o6 o7 o8 o9 o10 o11 o12 o13,σ=[some (.ref a),some (.ref d),some (.ref e),some (.ref kp),o4,o5,o6,o7,o8,o9,o10,o11,o12,o13])
  ⟨[],[],[],W,i9 _,(by simp),none,none,none,none,none,none,none,none,none,none,rfl⟩ (fun i σ H hi h=>?_) (fun σ H h=>?_)
 ·obtain⟨U,kv1,kv2,W,hUl,hnm,o4,o5,o6,o7,o8,o9,o10,o11,o12,o13,rfl⟩:=h
  have hi6:i<=6:=by
   rw[d8] at hi
   split at hi <;> split at hi <;> lia
  have e0:(0:Int)+(i:Int)=(i:Int):=by lia
  rw[e0]
  refine⟨_,rfl,_,rfl,a,scr,i,rfl,W.sq,fun l x b hl hst=>?_⟩
  have W3:=W.same (n8.new (o:=.lst [.int x,.bl b]) hl)
  have hl3:A6 H l (.lst [.int x,.bl b]) l=some (.lst [.int x,.bl b]):=j0
  show kL _ _ _ _ (A6 H l (.lst [.int x,.bl b]))
  generalize A6 H l (.lst [.int x,.bl b])=H3 at W3 hl3
  clear W hl
  refine⟨_,rfl,_,rfl,l,kp,x,b,kv2,U,rfl,hl3,hst,W3.kk,W3.k2,by lia,hnm,W3.cl,fun t line y u H4 H5 s4 k5 c5 ht hy hll hL=>?_⟩
  have W4:=W3.sta hl3 s4
  obtain⟨psl,hTl,_⟩:=id W4.cl
  have W5:=W4.kpT hTl k5 (fw W4.ct hTl hn1 k5) c5 (fw W4.ca hTl hn3.symm k5)
  obtain⟨_,x4,hx4,ok4⟩:=id s4
  have hl5:=k5 _ _ (fun z=>by rw[z,hTl] at hx4;cases hx4) hx4
  clear W3 W4 k5 hTl hx4 s4 c5 hl3 hst
  refine⟨t,_,rfl,.of ht,rfl,_,_,rfl,_,_,rfl,_,_,rfl,rfl,?_⟩
  refine vC ?_
  refine jq (fun σ' Hx=>σ'=[some (.ref a),some (.ref d),some (.ref e),some (.ref kp),some (.int (i:Int)),some (.ref l),some (.str line),some (.str y),some u,o9,o10,o11,o12,o13]/\(∃x,Hx l=some (.lst [.int x,.bl b])/\ly x b)/\∃U1 kv1,Wk K CD a d m e m2 kp T TL TA scr U1 U kv1 kv2 Hx/\((∃ua ns,u=.ref ua/\Hx ua=some (.tup (ns.map V.int))/\Q5 20 (DI ns)=true/\U1=oW U y ns) ∨ (U1=U/\U≠[]/\((∃z:Int,u=.int z) ∨ ∃ua ns,u=.ref ua/\Hx ua=some (.tup (ns.map V.int))/\ns≠[]/\∃z∈ns,(20:Int)<z)))) (fun N hN=>?_) (fun σ' Hx h=>?_)
  ·rcases EV W5.ku hL with ⟨j,hj,rfl,hne,hs⟩|⟨ua,ns,rfl,hua,hne,hs⟩
   ·refine⟨_,rfl,.int (j:Int),a,.int (j:Int),rfl,Dt.int _ _ _,_,rfl,O2 ?_⟩
    refine fun Zc=>⟨W5.ct,fun f0 c0 ctv Hl hkl hCTl hfn hf0 hc0 Hf frz=>?_⟩
    obtain⟨ps0,hT0,_⟩:=id W5.ct
    have Wl:=W5.kpT hT0 hkl hCTl (fw W5.cl hT0 hn1.symm hkl) (fw W5.ca hT0 hn2.symm hkl)
    have hll5:=hkl _ _ (fun z=>by rw[z,hT0] at hl5;cases hl5) hl5
    refine zM (k:=11) (N:=["_law_desk","_law_line_here"]) (ix:=[some 1,some 6]) (i0:=j) Zc frz ⟨c0,ctv,hf0,hc0⟩ rfl rfl rfl rfl (by decide+kernel) rfl hj (fun _ _=>rfl) (fun c1 A' outer' s' E1 Q1 hr' hin hE=>⟨_,cY (pv 0) D.cls C.say11 hr' gW (b8 (pv 1) f7),?_⟩) (fun Ho gO=>?_)
    ·have Wi:=Wl.same hin
     obtain⟨dx,hd⟩:=Wi.dk
     refine⟨_,rfl,d,dx,_,rfl,hd,rfl,_,rfl,Wi.say (by lia) hnm hll ?_⟩
     rw[hs];exact hE
    have gb:=frz.back gO
    refine⟨_,rfl,rfl,_,rfl,?_⟩
    rw[show decide (V.int (j:Int)=V.int (j:Int))=true from decide_eq_true rfl]
    exact N3 (fm (hN _ _ ⟨rfl,⟨x4,gb _ _ hll5,ok4⟩,U,kv1,Wl.same gb,.inr ⟨rfl,hne,.inl ⟨_,rfl⟩⟩⟩))
   ·refine⟨_,rfl,.ref ua,ua+1,DI ns,rfl,Dt.mkI (m9 (J3 ua)) hua,_,rfl,N3 ?_⟩
    obtain⟨dx,hd⟩:=W5.dk
    refine⟨_,rfl,d,dx,_,rfl,hd,rfl,_,rfl,W5.say (by lia) hnm hll ?_⟩
    rcases hs with ⟨hu,hs⟩|⟨⟨zb,hzb,hz20⟩,hUne,hs⟩
    ·rw[hs]
     intro u' H6 g6 hu'
     have W6:=(W5.same g6).putD (y:=y) nmm nmk hu' hu
     have hm6:=(W5.same g6).mm
     have hua6:A6 H6 m (.dK (L2.putK kv1 (C8 y) (.ref u'))) ua=some (.tup (ns.map V.int)):=by rw[v9 (fun z=>by rw[z,W5.mm] at hua;cases hua)];exact g6 _ _ hua
     have hl6:A6 H6 m (.dK (L2.putK kv1 (C8 y) (.ref u'))) l=some (.lst [.int x4,.bl b]):=by rw[v9 (fun z=>by rw[z,W5.mm] at hl5;cases hl5)];exact g6 _ _ hl5
     generalize A6 H6 m (.dK (L2.putK kv1 (C8 y) (.ref u')))=H7 at W6 hua6 hl6
     refine⟨by show 2<=i7;decide,fun pl hpl=>?_⟩
     have gl:n8 H7 (A6 H7 pl (.lst [.str "ok",.str "full"])):=n8.new hpl
     refine⟨_,rfl,ua,ns,rfl,.inr (.of (gl _ _ hua6)),hne,fun mx hmx hle=>⟨_,_,rfl,rfl,.inr ⟨_,rfl,?_⟩⟩⟩
     rw[decide_eq_false (show ¬ mx > 20 by have:=(zK hu).2 mx hmx;lia)]
     refine⟨pl,_,_,_,rfl,rfl,.of j0,F6 (j:=0) rfl,rfl,_,rfl,?_⟩
     rw[show decide (V.str "ok"=V.str "ok")=true from decide_eq_true rfl]
     exact N3 (fm (hN _ _ ⟨rfl,⟨x4,gl _ _ hl6,ok4⟩,_,_,W6.same gl,.inl ⟨ua,ns,rfl,gl _ _ hua6,hu,rfl⟩⟩))
    ·rw[hs]
     intro H7 g7
     refine⟨by show 2<=i7;decide,fun pl hpl=>?_⟩
     have gl:n8 H5 (A6 H7 pl (.lst [.str "ok",.str "full"])):=g7.trans (n8.new hpl)
     refine⟨_,rfl,ua,ns,rfl,.inr (.of (gl _ _ hua)),hne,fun mx hmx hle=>⟨_,_,rfl,rfl,.inr ⟨_,rfl,?_⟩⟩⟩
     rw[decide_eq_true (show mx > 20 by have:=hle zb hzb;lia)]
     refine⟨pl,_,_,_,rfl,rfl,.of j0,F6 (j:=1) rfl,rfl,_,rfl,?_⟩
     rw[show decide (V.str "full"=V.str "full")=true from decide_eq_true rfl]
     exact N3 (fm (hN _ _ ⟨rfl,⟨x4,gl _ _ hl5,ok4⟩,_,_,W5.same gl,.inr ⟨rfl,hUne,.inr ⟨ua,ns,rfl,gl _ _ hua,hne,zb,hzb,hz20⟩⟩⟩))
  clear W5 hl5 ok4 hL ht hll
  obtain⟨e1,⟨x5,hl5,ok5⟩,U1,kv1',W5,hC⟩:=h
  rw[e1]
  clear e1
  refine jq (fun σ' Hx=>σ'=[some (.ref a),some (.ref d),some (.ref e),some (.ref kp),some (.int (i:Int)),some (.ref l),some (.str line),some (.str y),some u,o9,o10,o11,o12,o13]/\(∃x,Hx l=some (.lst [.int x,.bl b])/\ly x b)/\∃U kv1 kv2,Wk K CD a d m e m2 kp T TL TA scr U U kv1 kv2 Hx/\U.length<=i+1/\U≠[]/\∀r∈U,S3 r.1=true) (fun N hN=>?_) (fun σ' Hx h=>?_)
  ·rcases hC with ⟨ua,ns,rfl,hua,hu,rfl⟩|⟨rfl,hne,hC⟩
   ·refine⟨_,rfl,.ref ua,ua+1,DI ns,rfl,Dt.mkI (m9 (J3 ua)) hua,_,rfl,O2 ?_⟩
    refine⟨_,rfl,ua,ns,rfl,.inr (.of hua),(zK hu).1,fun mx hmx hle=>⟨_,_,rfl,rfl,_,rfl,?_⟩⟩
    rw[decide_eq_true (show mx<21 by have:=(zK hu).2 mx hmx;lia)]
    refine O2 ⟨_,rfl,_,rfl,_,rfl,kp,_,rfl,uz.k (k:=C8 y) W5.kk (jo (by rw[W5.k2.len];lia)),?_⟩
    have W6:=W5.putK (y:=y) nkm nmk hua hu
    have hl6:A6 Hx kp (.dK (L2.putK kv2 (C8 y) (.ref ua))) l=some (.lst [.int x5,.bl b]):=by rw[v9 (fun z=>by rw[z,W5.kk] at hl5;cases hl5)];exact hl5
    have:=DT (U:=U) (x:=y) (ns:=ns)
    exact fm (hN _ _ ⟨rfl,⟨x5,hl6,ok5⟩,_,_,_,W6,by lia,Hv,Hu hnm hy⟩)
   ·rcases hC with ⟨z,rfl⟩|⟨ua,ns,rfl,hua,hne2,zb,hzb,hz20⟩
    ·exact⟨_,rfl,.int z,a,.int z,rfl,Dt.int _ _ _,_,rfl,N3 (fm (hN _ _ ⟨rfl,⟨x5,hl5,ok5⟩,_,_,_,W5,by lia,hne,hnm⟩))⟩
    ·refine⟨_,rfl,.ref ua,ua+1,DI ns,rfl,Dt.mkI (m9 (J3 ua)) hua,_,rfl,O2 ?_⟩
     refine⟨_,rfl,ua,ns,rfl,.inr (.of hua),hne2,fun mx hmx hle=>⟨_,_,rfl,rfl,_,rfl,?_⟩⟩
     rw[decide_eq_false (show ¬ mx<21 by have:=hle zb hzb;lia)]
     exact N3 (fm (hN _ _ ⟨rfl,⟨x5,hl5,ok5⟩,_,_,_,W5,by lia,hne,hnm⟩))
  clear W5 hC hl5 ok5 hnm hUl kv1' kv2 kv1 U1 U
  obtain⟨e1,⟨x5,hl5,ok5⟩,U,kv1,kv2,W5,hUl,hne,hnm⟩:=h
  rw[e1]
  clear e1 hy
  refine⟨_,rfl,kp,kv2,U.map (·.1),rfl,W5.kk,W5.k2.keys,by rw[d8];lia,fun Dn ms H6 pm pw g6 hD=>?_⟩
  have W6:=W5.same g6
  have hl6:=g6 _ _ hl5
  have hms:ms=sG (U.map (·.1)):=sF pw
  have hml:ms.length=U.length:=by rw[pm.length_eq,d8]
  have hmn:∀y∈ms,S3 y=true:=fun y hy=>by
   obtain⟨r,hr',e⟩:=List.mem_map.mp (pm.mem_iff.mp hy)
   rw[<- e];exact hnm r hr'
  clear W5 hl5 g6
  try dsimp -proj only[R7]
  obtain⟨dx,hd⟩:=W6.dk
  refine⟨_,rfl,d,dx,_,rfl,hd,rfl,W6.say (by lia) hnm (by decide+kernel) ?_⟩
  rw[vm]
  intro H7 g7
  have W7:=W6.same g7
  have hl7:=g7 _ _ hl6
  have hD7:=g7 _ _ hD
  have l1:(" ":Str).length=1:=by decide+kernel
  have big:1000<=i7:=by decide
  refine⟨rfl,_,rfl,_,Dn,ms,rfl,rfl,.of hD7,?_,rfl,_,rfl,?_⟩
  ·have hsl:(ms.map fun y=>y.length).sum<=8*ms.length:=aW fun y hy=>(Z9 (hmn y hy)).2.1
   rw[l1];lia
  rw[decide_eq_true (show V.str (D7 " " (sG (U.map (·.1))))=V.str (D7 " " ms) by rw[hms])]
  refine N3 ?_
  clear W6 hl6 hD g7 hd
  refine vC ?_
  have hpos:1<=ms.length:=by rw[hml];exact List.length_pos_iff.mpr hne
  refine⟨_,rfl,_,rfl,_,rfl,Dn,_,rfl,.inl (.of hD7),l,_,x5,b,rfl,hl7,ok5,?_,?_,fun z x8 hz ok8=>?_⟩
  ·rw[d8];lia
  ·rw[d8];lia
  rw[d8] at hz
  have hzl:z<ms.length:=by lia
  have nDl:Dn≠l:=fun z=>by
   rw[z,hl7] at hD7
   injection hD7 with h
   injection h with h
   cases ms with
   | nil=>cases h
   | cons z zs=>injection h with h1 _;cases h1
  have s8:ba l b H7 (A6 H7 l (.lst [.int x8,.bl b])):=(ba.start hl7 ok5).go ok8
  have W8:=W7.sta hl7 s8
  have hl8:A6 H7 l (.lst [.int x8,.bl b]) l=some (.lst [.int x8,.bl b]):=j0
  refine⟨Dn,_,_,_,rfl,rfl,.of (Kp.at _ _ nDl hD7),F6 (j:=z) (v:=.str ms[z]) (by rw[v8,i6 hzl];rfl),?_⟩
  have hone:=hmn _ (O0 hzl)
  have hin:ms[z]∈U.map (·.1):=pm.mem_iff.mp (O0 hzl)
  generalize ms[z]=one at hone hin
  try dsimp -proj only[R7]
  generalize A6 H7 l (.lst [.int x8,.bl b])=H8 at W8 hl8
  clear W7 hl7 hD7 s8 nDl
  rcases W8.k2.val (x:=one) with ⟨z0,_⟩|⟨ns,ka,hlk,hval,hka,hurn⟩
  ·exact absurd z0 (yn hin)
  have dg:cG H8 kp (.str one) (some (.ref ka)):=by
   have:=cG.k (k:=(C8 one:O4)) W8.kk
   rw[hval] at this;exact this
  refine⟨_,rfl,_,rfl,_,rfl,kp,_,rfl,dg,l,ka,x8,b,ns,rfl,hl8,ok8,hka,hurn,W8.ca,fun t2 word words due H9 Ha s9 ka9 c9 ht2 hA=>?_⟩
  have W9:=W8.sta hl8 s9
  obtain⟨psa,hTa,_⟩:=id W9.ca
  have Wa:=W9.kpT hTa ka9 (fw W9.ct hTa hn2 ka9) (fw W9.cl hTa hn3 ka9) c9
  have hka':Ha ka=some (.tup (ns.map V.int)):=by
   have h1:=s9.1 _ _ (fun z=>by rw[z,hl8] at hka;cases hka) hka
   exact ka9 _ _ (fun z=>by rw[z,hTa] at h1;cases h1) h1
  clear W8 W9 s9 ka9 c9 hTa hl8 ok8 dg hka
  refine⟨t2,_,rfl,.of ht2,rfl,_,_,rfl,_,_,rfl,_,_,rfl,rfl,?_⟩
  refine vC ?_
  obtain⟨ds,hw6,w1,w2,w3,hws,hlin,hdue⟩:=hA
  have h1:=(Z9 hone).2.1
  have hs:=zp (hlin one hone) w1 w2 w3 hlk
  have hjl:(D7 " " [word,one,words]).length<=900:=by
   rw[<- j3,B4,B4,B4,B4,l1];lia
  refine⟨_,rfl,_,_,rfl,rfl,?_,_,rfl,_,_,rfl,rfl,?_,_,_,rfl,rfl,?_,_,rfl,_,_,rfl,rfl,?_,?_⟩
  ·rw[l1];lia
  ·rw[B4,l1];lia
  ·rw[B4,B4,l1];lia
  ·rw[B4,B4,B4,l1];lia
  rw[j3]
  generalize D7 " " [word,one,words]=line2 at hs hjl
  try dsimp -proj only[R7]
  refine vC ?_
  clear hlin
  refine jq (fun σ' Hx=>σ'=[some (.ref a),some (.ref d),some (.ref e),some (.ref kp),some (.int (i:Int)),some (.ref l),some (.str line2),some (.str y),some u,some (.ref Dn),some (.str one),some (.str word),some (.str words),some due]/\Wk K CD a d m e m2 kp T TL TA scr U U kv1 kv2 Hx) (fun N hN=>?_) (fun σ' Hx h=>?_)
  ·rcases hdue with ⟨j,hj,hans,rfl⟩|⟨tt,hans,rfl⟩
   ·refine⟨_,rfl,.int (j:Int),a,.int (j:Int),rfl,Dt.int _ _ _,_,rfl,O2 ?_⟩
    refine fun Zc=>⟨Wa.ct,fun f0 c0 ctv Hl hkl hCTl hfn hf0 hc0 Hf frz=>?_⟩
    obtain⟨ps0,hT0,_⟩:=id Wa.ct
    have Wl:=Wa.kpT hT0 hkl hCTl (fw Wa.cl hT0 hn1.symm hkl) (fw Wa.ca hT0 hn2.symm hkl)
    refine zM (k:=11) (N:=["_law_desk","_law_line_here"]) (ix:=[some 1,some 6]) (i0:=j) Zc frz ⟨c0,ctv,hf0,hc0⟩ rfl rfl rfl rfl (by decide+kernel) rfl hj (fun _ _=>rfl) (fun c1 A' outer' s' E1 Q1 hr' hin hE=>⟨_,cY (pv 0) D.cls C.say11 hr' gW (b8 (pv 1) f7),?_⟩) (fun Ho gO=>?_)
    ·have Wi:=Wl.same hin
     obtain⟨dx,hd⟩:=Wi.dk
     refine⟨_,rfl,d,dx,_,rfl,hd,rfl,_,rfl,Wi.say (by lia) hnm hjl ?_⟩
     rw[hs,hans];exact hE
    have gb:=frz.back gO
    refine⟨_,rfl,rfl,_,rfl,?_⟩
    rw[show decide (V.int (j:Int)=V.int (j:Int))=true from decide_eq_true rfl]
    exact N3 (fm (hN _ _ ⟨rfl,Wl.same gb⟩))
   ·refine⟨_,rfl,.str tt,a,.str tt,rfl,Dt.str _ _ _,_,rfl,N3 ?_⟩
    obtain⟨dx,hd⟩:=Wa.dk
    refine⟨_,rfl,d,dx,_,rfl,hd,rfl,_,rfl,Wa.say (by lia) hnm hjl ?_⟩
    rw[hs,hans]
    intro Hb gb
    refine⟨_,rfl,rfl,_,rfl,?_⟩
    rw[show decide (V.str tt=V.str tt)=true from decide_eq_true rfl]
    exact N3 (fm (hN _ _ ⟨rfl,Wa.same gb⟩))
  clear hs hdue Wa hka' ht2
  obtain⟨e1,Wb⟩:=h
  rw[e1]
  clear e1
  rcases Wb.k2.val (x:=one) with ⟨z0,_⟩|⟨ns',kb,hlk',hvalb,hkb,hurnb⟩
  ·exact absurd z0 (yn hin)
  rw[hlk] at hlk'
  cases hlk'
  obtain⟨hUn,m1,m4⟩:=ax hurnb
  obtain⟨dx,hd⟩:=Wb.dk
  have l5:("show ":Str).length=5:=by decide+kernel
  refine⟨_,rfl,d,dx,_,rfl,hd,rfl,_,rfl,_,_,rfl,rfl,?_,Wb.say (by lia) hnm ?_ ?_⟩
  ·rw[l5];lia
  ·rw[B4,l5];lia
  rw[Dp hone hlk]
  intro Hc gc
  have Wc:=Wb.same gc
  have dgc:cG Hc kp (.str one) (some (.ref kb)):=by
   have:=cG.k (k:=(C8 one:O4)) Wc.kk
   rw[hvalb] at this;exact this
  refine⟨_,rfl,_,rfl,kp,_,rfl,dgc,kb,ns,rfl,gc _ _ hkb,by lia,fun z hz=>hUn.nn z hz,fun Hd gd=>⟨rfl,_,rfl,?_⟩⟩
  rw[show decide (V.str (nT ns)=V.str (nT ns))=true from decide_eq_true rfl]
  exact N3 ⟨U,kv1,kv2,Wc.same gd,hUl,hnm,_,_,_,_,_,_,_,_,_,_,rfl⟩
 ·obtain⟨U,kv1,kv2,W,hUl,hnm,o4,o5,o6,o7,o8,o9,o10,o11,o12,o13,rfl⟩:=h
  obtain⟨ex,he⟩:=W.bk
  refine⟨_,rfl,e,ex,_,rfl,he,rfl,e,m2,[],[],.str "kept",.str "kept",rfl,⟨ex,he,W.bb⟩,rfl,by decide,(by simp),Dt.str _ _ _,(fun t' e=>by cases e;decide+kernel),?_⟩
  rw[vm]
  intro H4 g4
  refine⟨rfl,?_⟩
  rw[show decide (V.str (D7 " " (sG (([]:List (Str × List Int)).map (·.1))))=V.str "")=true from decide_eq_true (by
   have e:sG []=[]:=(sF (.inl ⟨by decide,rfl⟩)).symm
   show V.str (D7 " " (sG []))=_
   rw[e];decide+kernel)]
  exact q H4
end
set_option maxHeartbeats 4000000
def cw (K:j7) (x:Str) (st:Stmt):Prop:=∃(f:Addr) (oc:b9) (od:Option Addr) (kV doc pm:b9) (an:Option Addr) (cdv ct:b9) (sl:Array (Option b9)),
 G4 K u6 x=some (some (.ref f))/\K.lookup f=some ⟨oc,od,.func (bM x x (ak st) (V1 st) (r6 st) .none kV doc pm an cdv ct),sl⟩/\eV K cdv x=true/\Y6 K (.ref f)=true
variable {f:Addr}{oc doc pm ct:b9}{od an:Option Addr}{sl:Array (Option b9)}
theorem E5 {st:Stmt}{kV:b9}{cdv:b9}
  (a:G4 K u6 x=some (some (.ref f))) (l:K.lookup f=some ⟨oc,od,.func (bM x x (ak st) (V1 st) (r6 st) .none kV doc pm an cdv ct),sl⟩) (c:eV K cdv x=true) (k:Y6 K (.ref f)=true):cw K x st :=
 ⟨f,oc,od,kV,doc,pm,an,cdv,ct,sl,a,l,c,k⟩
def IV (K:j7) (x:Str) (st:Stmt) (T:Addr):Prop:=∃(f:Addr) (oc:b9) (od:Option Addr) (kV doc pm:b9) (an:Option Addr) (cc:Addr) (ct:b9) (sl:Array (Option b9)),
 G4 K u6 x=some (some (.ref f))/\K.lookup f=some ⟨oc,od,.func (bM x x (ak st) (V1 st) (r6 st) .none kV doc pm an (.ref cc) ct),sl⟩/\eV K (.ref cc) x=true/\Y6 K (.ref f)=true/\ee K cc T=true/\K.lookup T=none
theorem ub {st:Stmt}{kV:b9}{cc:Addr}
  (a:G4 K u6 x=some (some (.ref f))) (l:K.lookup f=some ⟨oc,od,.func (bM x x (ak st) (V1 st) (r6 st) .none kV doc pm an (.ref cc) ct),sl⟩) (c:eV K (.ref cc) x=true) (k:Y6 K (.ref f)=true) (t:ee K cc T=true) (n:K.lookup T=none):IV K x st T :=
 ⟨f,oc,od,kV,doc,pm,an,cc,ct,sl,a,l,c,k,t,n⟩
variable {P:i8}{w:t9}{mg:Str->Option b9}{base h:Heap}{ps:List Str}{sp:Sp}
theorem O3 {st:Stmt}{k:Nat}(X:K.In h) (G:h.Ns u6 mg) (H:cw K x st)
  (hb:∀(f:Addr) (fd:A9),Y3 K x x st f fd->bc K fd ps []) (ok:∀(f:Addr) (fd:A9),Y3 K x x st f fd->G7 P w K mg base cQ k f fd ps sp):S6 P w K mg base k x ps sp:=by
 obtain⟨f,oc,od,kV,doc,pm,an,cdv,ct,sl,a,l,c,kp⟩:=H
 have F:=kj (st:=st) l c kp
 exact⟨f,_,R8 X G a,kp,hb _ _ F,ok _ _ F⟩
theorem R5 {st:Stmt}{k:Nat}(X:K.In h) (G:h.Ns u6 mg) (H:cw K x st)
  (hb:∀(f:Addr) (fd:A9),Y3 K x x st f fd->bc K fd ps []) (ok:∀(f:Addr) (fd:A9),Y3 K x x st f fd->G7 P w K mg base (cj P w) k f fd ps sp):O9 P w K mg base k x ps sp:=by
 obtain⟨f,oc,od,kV,doc,pm,an,cdv,ct,sl,a,l,c,kp⟩:=H
 have F:=kj (st:=st) l c kp
 exact⟨f,_,R8 X G a,kp,hb _ _ F,ok _ _ F⟩
noncomputable def vP (K:j7) (B:Addr):List Addr->Bool
 | []=>true
 | C::cs=>ME K C vE "ValueError.__new__"&&N0 K (.ref C) "__getattribute__" == some (some (.builtin "BaseException.__getattribute__"))&&N0 K (.ref C) "__getattr__" == some none&&mD K (.ref C) (.type "BaseException") == some true&&(wF K C).isSome&&N0 K (.ref C) "__class__" == some (some (.builtin "object.__class__")) &&
   MD K C (.type "object") == some true&&wU K (.ref C) (.ref B) == some true&&bV K (.ref C) (.type "ValueError") == some true&&vP K B cs
noncomputable def OM (K:j7) (B:Addr):Bool:=lC K (.builtin "object.__class__") "__get__" == some (some (.builtin "getset_descriptor.__get__"))&&BR K (.builtin "object.__class__") == some true&&mD K (.ref B) (.type "BaseException") == some true
noncomputable def errC (K:j7) (cs:List Addr):Bool:=(O5 10).all fun i=>(O5 10).all fun j=>bV K (.ref (cs.getD i 0)) (.ref (cs.getD j 0)) == some (decide (i=j))
theorem vO {K:j7}{B:Addr}:∀{cs:List Addr}{i:Nat},vP K B cs=true->i<cs.length->vP K B [cs.getD i 0]=true
 | C::cs,0,h,_=>by
  unfold vP at h
  rw[w6] at h
  unfold vP
  rw[w6]
  exact⟨h.1,rfl⟩
 | C::cs,i+1,h,hi=>by
  unfold vP at h
  rw[w6] at h
  have:=vO (cs:=cs) (i:=i) h.2 (by simpa using hi)
  simpa using this
theorem Iu {a0 a1 a2 a3 a4 a5 a6 a7 a8 a9 B:Addr} (X:K.In h) (G:h.Ns u6 mg)
  (e0:G4 K u6 "NoUrn"=some (some (.ref a0))) (e1:G4 K u6 "NoRule"=some (some (.ref a1))) (e2:G4 K u6 "NoKind"=some (some (.ref a2))) (e3:G4 K u6 "NoBall"=some (some (.ref a3))) (e4:G4 K u6 "NoDraws"=some (some (.ref a4)))
  (e5:G4 K u6 "NoNumber"=some (some (.ref a5))) (e6:G4 K u6 "NotEven"=some (some (.ref a6))) (e7:G4 K u6 "NoCounts"=some (some (.ref a7))) (e8:G4 K u6 "NotAlike"=some (some (.ref a8))) (e9:G4 K u6 "BadNote"=some (some (.ref a9)))
  (eb:G4 K u6 "UrnError"=some (some (.ref B))) (hA:vP K B [a0,a1,a2,a3,a4,a5,a6,a7,a8,a9]=true) (hB:OM K B=true) (hC:errC K [a0,a1,a2,a3,a4,a5,a6,a7,a8,a9]=true):
  jA K mg (fun i=>[a0,a1,a2,a3,a4,a5,a6,a7,a8,a9].getD i 0) B:=by
 unfold OM at hB
 simp only[w6,beq_iff_eq] at hB
 obtain⟨⟨b1,b2⟩,b3⟩:=hB
 have A:∀i,i<10->_:=fun i hi=>vO (i:=i) hA hi
 have A':∀i,i<10->((((((((ME K ([a0,a1,a2,a3,a4,a5,a6,a7,a8,a9].getD i 0) vE "ValueError.__new__"=true/\N0 K (.ref ([a0,a1,a2,a3,a4,a5,a6,a7,a8,a9].getD i 0)) "__getattribute__"=some (some (.builtin "BaseException.__getattribute__")))/\N0 K (.ref ([a0,a1,a2,a3,a4,a5,a6,a7,a8,a9].getD i 0)) "__getattr__"=some none)/\mD K (.ref ([a0,a1,a2,a3,a4,a5,a6,a7,a8,a9].getD i 0)) (.type "BaseException")=some true)/\(wF K ([a0,a1,a2,a3,a4,a5,a6,a7,a8,a9].getD i 0)).isSome=true) /\
   N0 K (.ref ([a0,a1,a2,a3,a4,a5,a6,a7,a8,a9].getD i 0)) "__class__"=some (some (.builtin "object.__class__")))/\MD K ([a0,a1,a2,a3,a4,a5,a6,a7,a8,a9].getD i 0) (.type "object")=some true)/\wU K (.ref ([a0,a1,a2,a3,a4,a5,a6,a7,a8,a9].getD i 0)) (.ref B)=some true) /\
   bV K (.ref ([a0,a1,a2,a3,a4,a5,a6,a7,a8,a9].getD i 0)) (.type "ValueError")=some true):=fun i hi=>by
  have z:=A i hi
  unfold vP at z
  rw[w6] at z
  have z1:=z.1
  simp only[w6,beq_iff_eq] at z1
  exact z1
 exact⟨R8 X G e0,R8 X G e1,R8 X G e2,R8 X G e3,R8 X G e4,R8 X G e5,R8 X G e6,R8 X G e7,R8 X G e8,R8 X G e9,R8 X G eb,
  fun i hi=>(A' i hi).1.1.1.1.1.1.1.1,fun i hi=>⟨(A' i hi).1.1.1.1.1.1.1.2,(A' i hi).1.1.1.1.1.1.2,(A' i hi).1.1.1.1.1.2,(A' i hi).1.1.1.1.2,(A' i hi).1.1.1.2,b1,b2,(A' i hi).1.1.2⟩,fun i hi=>(A' i hi).1.2,b3,
  fun i j hi hj=>by
   have z:=List.all_eq_true.mp (List.all_eq_true.mp hC i (List.mem_range.mpr hi)) j (List.mem_range.mpr hj)
   exact beq_iff_eq.mp z,fun i hi=>(A' i hi).2⟩
variable {es:Array M6}{n:Nat}
theorem EU {dl:Addr}(X:K.In h) (G:h.Ns u6 mg) (a:G4 K u6 "LINES"=some (some (.ref dl)))
  (l:K.lookup dl=some ⟨.type "dict",none,.dict es n,#[]⟩) (s:(dl == P7)=false) (k:Nk w.params es.toList):uv K w mg dl (fun x=>qw S0 es x):=
 ⟨R8 X G a,⟨s,es,n,l,k,fun _=>rfl⟩⟩
theorem fu {dl t:Addr}{m:Nat}{a:Str}{fos:List Str}{its:Array b9}(l:K.lookup dl=some ⟨.type "dict",none,.dict es n,#[]⟩)
  (e:G4 K dl a=some (some (.ref t))) (lt:K.lookup t=some ⟨.type "tuple",od,.seq its m,sl⟩) (z:its.size<=i7) (v:G6 (fos.map V.str) its.toList):Af K (fun x=>qw S0 es x) a fos :=
 ⟨t,W.find_K l e,fun H=>.inr ⟨_,its,m,lt,rfl,rfl,z,v⟩⟩
theorem Ip (h:es.toList.all (fun e=>rm.any fun r=>S0 r.1 e.key)=true) {a:Str} (ha:nA a=none):qw S0 es a=none:=by
 unfold qw
 rw[iy,<- Cz,mG]
 intro e he hs
 obtain⟨r,hr,hq⟩:=List.any_eq_true.mp (List.all_eq_true.mp h e he)
 obtain⟨t,e1⟩:=bp (x:=r.1) (v:=e.key) hq
 obtain⟨u,e2⟩:=bp (x:=a) (v:=e.key) hs
 rw[e1] at e2
 injection e2 with e3 _
 unfold nA at ha
 rw[iy,mG] at ha
 exact ha r hr (by rw[e3];exact decide_eq_true rfl)
theorem Fv {f:Str->Option b9} (h:∀r∈rm,Af K f r.1 r.2) {a:Str}{fos:List Str} (ha:nA a=some fos):Af K f a fos:=by
 unfold nA at ha
 obtain⟨r,hr,e⟩:=Option.map_eq_some_iff.mp ha
 have hm:=gw hr
 have hd':=List.find?_some (p:=fun r:Str × List Str=>decide (r.1=a)) hr
 have hd:=of_decide_eq_true hd'
 rw[<- hd,<- e]
 exact h r hm
theorem yo {dl t0 t1 t2 t3 t4 t5 t6 t7:Addr}{m0 m1 m2 m3 m4 m5 m6 m7:Nat}{od0 od1 od2 od3 od4 od5 od6 od7:Option Addr}{its0 its1 its2 its3 its4 its5 its6 its7:Array b9}{sl0 sl1 sl2 sl3 sl4 sl5 sl6 sl7:Array (Option b9)} (X:K.In h) (G:h.Ns u6 mg) (a:G4 K u6 "LINES"=some (some (.ref dl)))
  (l:K.lookup dl=some ⟨.type "dict",none,.dict es n,#[]⟩) (s:(dl == P7)=false) (k:Nk w.params es.toList) (kw:es.toList.all (fun e=>rm.any fun r=>S0 r.1 e.key)=true)
  (e0:G4 K dl "urn"=some (some (.ref t0))) (lt0:K.lookup t0=some ⟨.type "tuple",od0,.seq its0 m0,sl0⟩) (z0:its0.size<=i7) (v0:G6 [.str "name",.str "urn"] its0.toList)
  (e1:G4 K dl "draw"=some (some (.ref t1))) (lt1:K.lookup t1=some ⟨.type "tuple",od1,.seq its1 m1,sl1⟩) (z1:its1.size<=i7) (v1:G6 [.str "name",.str "rule",.str "figure",.str "name"] its1.toList)
  (e2:G4 K dl "kept"=some (some (.ref t2))) (lt2:K.lookup t2=some ⟨.type "tuple",od2,.seq its2 m2,sl2⟩) (z2:its2.size<=i7) (v2:G6 [] its2.toList)
  (e3:G4 K dl "show"=some (some (.ref t3))) (lt3:K.lookup t3=some ⟨.type "tuple",od3,.seq its3 m3,sl3⟩) (z3:its3.size<=i7) (v3:G6 [.str "name"] its3.toList)
  (e4:G4 K dl "chance"=some (some (.ref t4))) (lt4:K.lookup t4=some ⟨.type "tuple",od4,.seq its4 m4,sl4⟩) (z4:its4.size<=i7) (v4:G6 [.str "name",.str "figure"] its4.toList)
  (e5:G4 K dl "stands"=some (some (.ref t5))) (lt5:K.lookup t5=some ⟨.type "tuple",od5,.seq its5 m5,sl5⟩) (z5:its5.size<=i7) (v5:G6 [.str "name",.str "rule",.str "figure"] its5.toList)
  (e6:G4 K dl "mean"=some (some (.ref t6))) (lt6:K.lookup t6=some ⟨.type "tuple",od6,.seq its6 m6,sl6⟩) (z6:its6.size<=i7) (v6:G6 [.str "name",.str "rule",.str "figure"] its6.toList)
  (e7:G4 K dl "fair"=some (some (.ref t7))) (lt7:K.lookup t7=some ⟨.type "tuple",od7,.seq its7 m7,sl7⟩) (z7:its7.size<=i7) (v7:G6 [.str "name",.str "rule"] its7.toList):
  uv K w mg dl (fun x=>qw S0 es x)/\FV K (fun x=>qw S0 es x):=⟨EU X G a l s k,fun b hb=>Ip kw hb,fun b fos hb=>Fv (fun r hr=>by
  simp only[rm,C3,B6,or_false] at hr
  rcases hr with rfl|rfl|rfl|rfl|rfl|rfl|rfl|rfl
  ·exact fu (fos:=["name","urn"]) l e0 lt0 z0 v0
  ·exact fu (fos:=["name","rule","figure","name"]) l e1 lt1 z1 v1
  ·exact fu (fos:=[]) l e2 lt2 z2 v2
  ·exact fu (fos:=["name"]) l e3 lt3 z3 v3
  ·exact fu (fos:=["name","figure"]) l e4 lt4 z4 v4
  ·exact fu (fos:=["name","rule","figure"]) l e5 lt5 z5 v5
  ·exact fu (fos:=["name","rule","figure"]) l e6 lt6 z6 v6
  ·exact fu (fos:=["name","rule"]) l e7 lt7 z7 v7) hb⟩
def yQ (K:j7) (C:Addr) (x qual:Str) (st:Stmt):Prop:=∃(f:Addr) (oc:b9) (od:Option Addr) (kV doc pm:b9) (an:Option Addr) (cdv ct:b9) (sl:Array (Option b9)),
 N0 K (.ref C) x=some (some (.ref f))/\JN K (.ref f)=true/\K.lookup f=some ⟨oc,od,.func (bM x qual (ak st) (V1 st) (r6 st) .none kV doc pm an cdv ct),sl⟩/\eV K cdv qual=true/\Y6 K (.ref f)=true
variable {C:Addr}{qual:Str}
theorem nW {st:Stmt}{kV:b9}{cdv:b9}
  (a:N0 K (.ref C) x=some (some (.ref f))) (fn:JN K (.ref f)=true) (l:K.lookup f=some ⟨oc,od,.func (bM x qual (ak st) (V1 st) (r6 st) .none kV doc pm an cdv ct),sl⟩) (c:eV K cdv qual=true) (k:Y6 K (.ref f)=true):yQ K C x qual st :=
 ⟨f,oc,od,kV,doc,pm,an,cdv,ct,sl,a,fn,l,c,k⟩
theorem Ab {st:Stmt}{k:Nat}(H:yQ K C x qual st)
  (hb:∀(f:Addr) (fd:A9),Y3 K x qual st f fd->bc K fd ps []) (ok:∀(f:Addr) (fd:A9),Y3 K x qual st f fd->G7 P w K mg base cQ k f fd ps sp):uA P w K mg base C k x ps sp:=by
 obtain⟨f,oc,od,kV,doc,pm,an,cdv,ct,sl,a,fn,l,c,kp⟩:=H
 have F:=kj (st:=st) l c kp
 exact⟨f,_,⟨a,fn,kp⟩,hb _ _ F,ok _ _ F⟩
theorem IH {k:Nat}(hm:mg x=some (.ref C)) (mk:BS K C=true) (kp:Y6 K (.ref C)=true) (M:uA P w K mg base C k "__init__" ps sp):BM P w K mg base C k x ps sp:=by
 obtain⟨f,fd,me,hb,F⟩:=M.ex
 exact⟨f,fd,⟨mk,me.at_,me.fn,kp⟩,hm,hb,F⟩
section
variable {K:j7}{x qual:Str}{st:Stmt}{p q r:Str}
theorem b1 (h:∀(kV doc pm:b9) (an:Option Addr) (cdv ct u:b9),fG (bM x qual (ak st) (V1 st) (r6 st) .none kV doc pm an cdv ct) ⟨[u],[]⟩=pure [(p,u)]):∀(f:Addr) (fd:A9),Y3 K x qual st f fd->bc K fd [p] []:=fun f fd F=>F.binds fun a b c d e g us hl=>match us,hl with | [u],_=>h a b c d e g u
theorem b2 (h:∀(kV doc pm:b9) (an:Option Addr) (cdv ct u v:b9),fG (bM x qual (ak st) (V1 st) (r6 st) .none kV doc pm an cdv ct) ⟨[u,v],[]⟩=pure [(p,u),(q,v)]):∀(f:Addr) (fd:A9),Y3 K x qual st f fd->bc K fd [p,q] []:=fun f fd F=>F.binds fun a b c d e g us hl=>match us,hl with | [u,v],_=>h a b c d e g u v
theorem b3 (h:∀(kV doc pm:b9) (an:Option Addr) (cdv ct u v w:b9),fG (bM x qual (ak st) (V1 st) (r6 st) .none kV doc pm an cdv ct) ⟨[u,v,w],[]⟩=pure [(p,u),(q,v),(r,w)]):∀(f:Addr) (fd:A9),Y3 K x qual st f fd->bc K fd [p,q,r] []:=fun f fd F=>F.binds fun a b c d e g us hl=>match us,hl with | [u,v,w],_=>h a b c d e g u v w
end
theorem wd {st:Stmt}{k:Nat}(H:yQ K C x qual st)
  (hb:∀(f:Addr) (fd:A9),Y3 K x qual st f fd->bc K fd ps []) (ok:∀(f:Addr) (fd:A9),Y3 K x qual st f fd->G7 P w K mg base (cj P w) k f fd ps sp):jF P w K mg base C k x ps sp:=by
 obtain⟨f,oc,od,kV,doc,pm,an,cdv,ct,sl,a,fn,l,c,kp⟩:=H
 have F:=kj (st:=st) l c kp
 exact⟨f,_,⟨a,fn,kp⟩,hb _ _ F,ok _ _ F⟩
theorem Ms {l:Nj}{fa TL TA Bs dl CD:Addr}{c:Nat->Addr}{fL:Str->Option b9} (X:K.In h) (G:h.Ns u6 mg) (hfa:mg "law"=some (.ref fa)) (R:jA K mg c Bs) (LL:uv K w mg dl fL/\FV K fL)
  (hcd':G4 K u6 "Desk"=some (some (.ref CD))) (D:rX K CD) (hmk:BS K CD=true) (hkp:Y6 K (.ref CD)=true)
  (h1:cw K "is_number" iP) (h2:cw K "is_whole" jT) (h3:cw K "are_wholes" gQ) (h4:cw K "is_urn_up_to" eK) (h5:cw K "is_urn" oM) (h6:cw K "need_number" fJ) (h7:cw K "is_rule" lR) (h8:cw K "need_urn" jS) (h9:cw K "need_rule" iM) (h10:cw K "need_urn_and_rule" Dv) (h11:cw K "greatest_divisor" KM) (h12:cw K "fraction" jU) (h13:cw K "times" sW) (h14:cw K "plus" xK) (h15:cw K "total" sV) (h16:cw K "share" sY) (h17:cw K "put_in" oJ) (h18:cw K "own_urn" lQ) (h19:cw K "urns_behind_one" Dr) (h20:cw K "next_chances" sZ) (h21:cw K "stands" KC) (h22:cw K "mean_share" KH) (h23:cw K "mean_shares" Dy) (h24:cw K "is_fair" xP) (h25:cw K "mean_balls" KJ) (h26:cw K "mean" KI) (h27:cw K "need_kind" iO) (h28:cw K "chance" oO) (h29:cw K "after" tq) (h30:cw K "numbers_text" KF) (h31:cw K "urn_text" KA) (h32:cw K "fraction_text" KO) (h33:cw K "need_text" Dw) (h34:cw K "numbers_read" KG) (h35:cw K "urn_read" KB) (h36:cw K "rule_read" KD) (h37:cw K "name_read" Dx) (h38:cw K "figure_read" DE) (h39:cw K "any_rule_read" DF) (h40:cw K "word_read" Kz) (h41:cw K "line_read" KL) (h42:cw K "answer" DG) (h43:cw K "_law_cell_at" lT) (h44:cw K "_law_state" sX) (h45:cw K "_law_take" xJ) (h46:cw K "_law_urn" xM) (h47:cw K "_law_rule" tm) (h48:cw K "_law_refused" lP) (h49:cw K "_law_urn_text" Dz) (h50:cw K "_law_rule_text" DA) (h51:cw K "_law_fraction_text" DD) (h52:cw K "_law_name" DB) (h53:cw K "_law_made" tj)
  (hm1:yQ K CD "__init__" "Desk.__init__" xO) (hm2:yQ K CD "urn_by_name" "Desk.urn_by_name" Ds) (hm3:yQ K CD "keep" "Desk.keep" xN) (hm4:yQ K CD "say" "Desk.say" Du)
  (hlaw:IV K "law" oK T) (hown0:IV K "_law_line" zq TL) (hown1:IV K "_law_asked" zr TA) (hN1:T≠TL) (hN2:T≠TA) (hN3:TL≠TA)
  (z1:G4 K u6 "isinstance"=some none) (z2:G4 K u6 "bool"=some none) (z3:G4 K u6 "int"=some none) (z4:G4 K u6 "tuple"=some none) (z5:G4 K u6 "list"=some none) (z6:G4 K u6 "all"=some none) (z7:G4 K u6 "sum"=some none) (z8:G4 K u6 "len"=some none) (z9:G4 K u6 "range"=some none) (z10:G4 K u6 "max"=some none) (z11:G4 K u6 "min"=some none) (z12:G4 K u6 "abs"=some none) (z13:G4 K u6 "zip"=some none) (z14:G4 K u6 "str"=some none) (z15:G4 K u6 "enumerate"=some none) (z16:G4 K u6 "sorted"=some none) (zV:G4 K u6 "ValueError"=some none)
  {t1:Tok} (m1:G4 K u6 "MOST_KINDS"=some (some (.int 4 t1))) {t2:Tok} (m2:G4 K u6 "MOST_BALLS"=some (some (.int 20 t2))) {t3:Tok} (m3:G4 K u6 "MOST_PUT_IN"=some (some (.int 5 t3))) {t4:Tok} (m4:G4 K u6 "MOST_STAND_DRAWS"=some (some (.int 6 t4))) {tl:Tok} (ml:G4 K u6 "MOST_LETTERS"=some (some (.int 8 tl))) {tf:Tok} (mf:G4 K u6 "FIGURES"=some (some (.str "0123456789" tf))):
  ∃fd:A9,(∀(s:f6) (v:b9),sy s fd ⟨[v],[]⟩ [("_law_script",v)])/\(∀t∈[TA,TL,T],K.lookup t=none/\∃cc,ee K cc t=true)/\∀base:Heap,K.In base->base.Ns u6 mg->base.BuiltinsAt mg TL->base.BuiltinsAt mg TA->base.BuiltinsAt mg T->G7 l.prog w K mg base cQ 16 fa fd ["_law_script"] (zi K T TL TA):=by
 obtain⟨L,LT⟩:=LL
 obtain⟨f,oc,od,kV,doc,pm,an,cc,ct,sl,a,lk,c',kp,hcd,hTn⟩:=hlaw
 obtain⟨f2,oc2,od2,kV2,doc2,pm2,an2,cc2,ct2,sl2,a2,lk2,c2',kp2,hcd2,hTn2⟩:=hown0
 have F2:=kj (st:=zq) lk2 c2' kp2
 obtain⟨f3,oc3,od3,kV3,doc3,pm3,an3,cc3,ct3,sl3,a3,lk3,c3',kp3,hcd3,hTn3⟩:=hown1
 have F3:=kj (st:=zr) lk3 c3' kp3
 have e:=hfa.symm.trans (R8 X G a)
 cases e
 have F:=kj (st:=oK) lk c' kp
 have B:Bt mg:=⟨K9 X G z1,K9 X G z2,K9 X G z3,K9 X G z4,K9 X G z5,K9 X G z6,K9 X G z7,K9 X G z8,K9 X G z9,K9 X G z10,K9 X G z11,K9 X G z12,K9 X G z13⟩
 have B2:Gv mg:=⟨K9 X G z14⟩
 have B3:Nb mg:=⟨K9 X G z15,K9 X G z16⟩
 have C:Ct mg:=⟨⟨_,R8 X G m1⟩,⟨_,R8 X G m2⟩,⟨_,R8 X G m3⟩⟩
 have C2:Ct2 mg:=⟨⟨_,R8 X G m4⟩⟩
 have CK:CtK mg:=⟨⟨_,R8 X G ml⟩,⟨_,R8 X G mf⟩⟩
 have hVE:=K9 X G zV
 refine⟨bM "law" "law" (ak oK) (V1 oK) (r6 oK) .none kV doc pm an (.ref cc) ct,fun s v=>.of_eq rfl,(fun t ht=>by
  simp only[C3,B6,or_false] at ht
  rcases ht with e|e|e <;> subst e
  ·exact⟨hTn3,cc3,hcd3⟩
  ·exact⟨hTn2,cc2,hcd2⟩
  ·exact⟨hTn,cc,hcd⟩),fun base hKb _ hbm2 hbm3 hbm=>?_⟩
 have c_is_number:S6 l.prog w K mg base 0 "is_number" ["thing"] gL:=O3 X G h1 (b1 fun _ _ _ _ _ _ _=>rfl) (fun _ _ F=>tT F B)
 have c_is_whole:S6 l.prog w K mg base 1 "is_whole" ["thing","low","high"] cX:=O3 X G h2 (b3 fun _ _ _ _ _ _ _ _ _=>rfl) (fun _ _ F=>vA F c_is_number)
 have c_are_wholes:S6 l.prog w K mg base 2 "are_wholes" ["thing","low","high"] cO:=O3 X G h3 (b3 fun _ _ _ _ _ _ _ _ _=>rfl) (fun _ _ F=>qH F B c_is_whole)
 have c_is_urn_up_to:S6 l.prog w K mg base 3 "is_urn_up_to" ["thing","most"] dq:=O3 X G h4 (b2 fun _ _ _ _ _ _ _ _=>rfl) (fun _ _ F=>nv F B C c_are_wholes)
 have c_is_urn:S6 l.prog w K mg base 4 "is_urn" ["thing"] fX:=O3 X G h5 (b1 fun _ _ _ _ _ _ _=>rfl) (fun _ _ F=>AY F C c_is_urn_up_to)
 have c_need_number:O9 l.prog w K mg base 2 "need_number" ["thing","low","high"] (ay c):=R5 X G h6 (b3 fun _ _ _ _ _ _ _ _ _=>rfl) (fun _ _ F=>pf F R c_is_whole)
 have c_is_rule:O9 l.prog w K mg base 3 "is_rule" ["kinds","thing"] (gK c):=R5 X G h7 (b2 fun _ _ _ _ _ _ _ _=>rfl) (fun _ _ F=>yd F B C c_are_wholes c_need_number)
 have c_need_urn:O9 l.prog w K mg base 5 "need_urn" ["thing"] (cW c):=R5 X G h8 (b1 fun _ _ _ _ _ _ _=>rfl) (fun _ _ F=>vz F R c_is_urn)
 have c_need_rule:O9 l.prog w K mg base 4 "need_rule" ["kinds","thing"] (gJ c):=R5 X G h9 (b2 fun _ _ _ _ _ _ _ _=>rfl) (fun _ _ F=>tR F R c_is_rule)
 have c_need_urn_and_rule:O9 l.prog w K mg base 6 "need_urn_and_rule" ["urn","rule"] (sH c):=R5 X G h10 (b2 fun _ _ _ _ _ _ _ _=>rfl) (fun _ _ F=>Ln F B c_need_urn c_need_rule)
 have c_greatest_divisor:S6 l.prog w K mg base 1 "greatest_divisor" ["one","other"] CW:=O3 X G h11 (b2 fun _ _ _ _ _ _ _ _=>rfl) (fun _ _ F=>OA F B)
 have c_fraction:S6 l.prog w K mg base 2 "fraction" ["top","bottom"] bA:=O3 X G h12 (b2 fun _ _ _ _ _ _ _ _=>rfl) (fun _ _ F=>vB F c_greatest_divisor)
 have c_times:S6 l.prog w K mg base 3 "times" ["one","other"] iJ:=O3 X G h13 (b2 fun _ _ _ _ _ _ _ _=>rfl) (fun _ _ F=>Ey F c_fraction)
 have c_plus:S6 l.prog w K mg base 3 "plus" ["one","other"] nP:=O3 X G h14 (b2 fun _ _ _ _ _ _ _ _=>rfl) (fun _ _ F=>HJ F c_fraction)
 have c_total:S6 l.prog w K mg base 4 "total" ["fractions"] kM:=O3 X G h15 (b1 fun _ _ _ _ _ _ _=>rfl) (fun _ _ F=>Ex F c_plus)
 have c_share:S6 l.prog w K mg base 3 "share" ["urn","kind"] kN:=O3 X G h16 (b2 fun _ _ _ _ _ _ _ _=>rfl) (fun _ _ F=>EA F B c_fraction)
 have c_put_in:S6 l.prog w K mg base 1 "put_in" ["urn","rule","kind"] jn:=O3 X G h17 (b3 fun _ _ _ _ _ _ _ _ _=>rfl) (fun _ _ F=>AX F B)
 have c_own_urn:S6 l.prog w K mg base 1 "own_urn" ["urn"] jP:=O3 X G h18 (b1 fun _ _ _ _ _ _ _=>rfl) (fun _ _ F=>yc F B)
 have c_urns_behind_one:S6 l.prog w K mg base 2 "urns_behind_one" ["urn","rule"] xn:=O3 X G h19 (b2 fun _ _ _ _ _ _ _ _=>rfl) (fun _ _ F=>Lk F B3 c_put_in)
 have c_next_chances:S6 l.prog w K mg base 4 "next_chances" ["chances","rule"] oB:=O3 X G h20 (b2 fun _ _ _ _ _ _ _ _=>rfl) (fun _ _ F=>EB F B c_urns_behind_one c_times c_fraction c_plus)
 have c_stands:O9 l.prog w K mg base 7 "stands" ["urn","rule","draws"] (rh c):=R5 X G h21 (b3 fun _ _ _ _ _ _ _ _ _=>rfl) (fun _ _ F=>Os F B B3 C2 c_need_urn_and_rule c_need_number c_own_urn c_next_chances)
 have c_mean_share:S6 l.prog w K mg base 5 "mean_share" ["behind","kind"] CT:=O3 X G h22 (b2 fun _ _ _ _ _ _ _ _=>rfl) (fun _ _ F=>Ow F c_total c_times c_share)
 have c_mean_shares:O9 l.prog w K mg base 8 "mean_shares" ["urn","rule","draws"] (xt c):=R5 X G h23 (b3 fun _ _ _ _ _ _ _ _ _=>rfl) (fun _ _ F=>Lq F B c_stands c_mean_share)
 have c_is_fair:O9 l.prog w K mg base 9 "is_fair" ["urn","rule"] (nQ c):=R5 X G h24 (b2 fun _ _ _ _ _ _ _ _=>rfl) (fun _ _ F=>HP F c_mean_shares)
 have c_mean_balls:S6 l.prog w K mg base 5 "mean_balls" ["behind","kind"] CU:=O3 X G h25 (b2 fun _ _ _ _ _ _ _ _=>rfl) (fun _ _ F=>Oy F c_total c_times)
 have c_mean:O9 l.prog w K mg base 8 "mean" ["urn","rule","draws"] (zh c):=R5 X G h26 (b3 fun _ _ _ _ _ _ _ _ _=>rfl) (fun _ _ F=>Ox F B c_stands c_mean_balls)
 have c_need_kind:O9 l.prog w K mg base 2 "need_kind" ["urn","thing"] (dP c):=R5 X G h27 (b2 fun _ _ _ _ _ _ _ _=>rfl) (fun _ _ F=>tS F B R c_is_whole)
 have c_chance:O9 l.prog w K mg base 6 "chance" ["urn","kind"] (fY c):=R5 X G h28 (b2 fun _ _ _ _ _ _ _ _=>rfl) (fun _ _ F=>AZ F c_need_urn c_need_kind c_share)
 have c_after:O9 l.prog w K mg base 7 "after" ["urn","rule","kind"] (iK c):=R5 X G h29 (b3 fun _ _ _ _ _ _ _ _ _=>rfl) (fun _ _ F=>ED F R c_need_urn_and_rule c_need_kind c_put_in)
 have c_numbers_text:S6 l.prog w K mg base 1 "numbers_text" ["numbers"] mK:=O3 X G h30 (b1 fun _ _ _ _ _ _ _=>rfl) (fun _ _ F=>Ou F B2)
 have c_urn_text:S6 l.prog w K mg base 6 "urn_text" ["urn"] CP:=O3 X G h31 (b1 fun _ _ _ _ _ _ _=>rfl) (fun _ _ F=>Oo F c_need_urn (c_numbers_text.up (by decide)))
 have c_fraction_text:S6 l.prog w K mg base 1 "fraction_text" ["fraction"] jQ:=O3 X G h32 (b1 fun _ _ _ _ _ _ _=>rfl) (fun _ _ F=>LA F B2)
 have c_need_text:O9 l.prog w K mg base 1 "need_text" ["thing"] (oA c):=R5 X G h33 (b1 fun _ _ _ _ _ _ _=>rfl) (fun _ _ F=>Lo F B B2 R)
 have c_numbers_read:S6 l.prog w K mg base 1 "numbers_read" ["text","most"] zg:=O3 X G h34 (b2 fun _ _ _ _ _ _ _ _=>rfl) (fun _ _ F=>Ov F B B2)
 have c_urn_read:O9 l.prog w K mg base 6 "urn_read" ["text"] (CQ c):=R5 X G h35 (b1 fun _ _ _ _ _ _ _=>rfl) (fun _ _ F=>Oq F C R (c_need_text.up (by decide)) (c_numbers_read.up (by decide)) (c_is_urn.up (by decide)))
 have c_rule_read:O9 l.prog w K mg base 6 "rule_read" ["kinds","text"] (CS c):=R5 X G h36 (b2 fun _ _ _ _ _ _ _ _=>rfl) (fun _ _ F=>Ot F B C R (c_need_number.up (by decide)) (c_need_text.up (by decide)) (c_numbers_read.up (by decide)) (c_is_rule.up (by decide)))
 have c_name_read:O9 l.prog w K mg base 1 "name_read" ["word"] (xp c):=R5 X G h37 (b1 fun _ _ _ _ _ _ _=>rfl) (fun _ _ F=>Lp F B CK R)
 have c_figure_read:O9 l.prog w K mg base 1 "figure_read" ["word"] (xy c):=R5 X G h38 (b1 fun _ _ _ _ _ _ _=>rfl) (fun _ _ F=>LB F B CK R)
 have c_any_rule_read:O9 l.prog w K mg base 7 "any_rule_read" ["word"] (xB c):=R5 X G h39 (b1 fun _ _ _ _ _ _ _=>rfl) (fun _ _ F=>LC F C R c_rule_read)
 have c_word_read:O9 l.prog w K mg base 8 "word_read" ["form","word"] (CO c):=R5 X G h40 (b2 fun _ _ _ _ _ _ _ _=>rfl) (fun _ _ F=>Om F c_name_read c_urn_read c_figure_read c_any_rule_read)
 have c_line_read:O9 l.prog w K mg base 9 "line_read" ["line"] (CV c):=R5 X G h41 (b1 fun _ _ _ _ _ _ _=>rfl) (fun _ _ F=>Oz F B R L LT c_need_text c_word_read)
 have c_answer:O9 l.prog w K mg base 10 "answer" ["asked","urn","others"] (xC c):=R5 X G h42 (b3 fun _ _ _ _ _ _ _ _ _=>rfl) (fun _ _ F=>LD F B B2 c_urn_text c_fraction_text c_chance c_stands c_mean c_is_fair)
 have c__law_cell_at:S6 l.prog w K mg base 1 "_law_cell_at" ["_law_script","_law_k"] (jR K):=O3 X G h43 (b2 fun _ _ _ _ _ _ _ _=>rfl) (fun _ _ F=>ye F B)
 have c__law_state:S6 l.prog w K mg base 2 "_law_state" ["_law_script","_law_k"] (ou K):=O3 X G h44 (b2 fun _ _ _ _ _ _ _ _=>rfl) (fun _ _ F=>Ez F c__law_cell_at)
 have c__law_take:S6 l.prog w K mg base 1 "_law_take" ["_law_state_here","_law_many"] fh:=O3 X G h45 (b2 fun _ _ _ _ _ _ _ _=>rfl) (fun _ _ F=>HI F )
 have c__law_urn:S6 l.prog w K mg base 2 "_law_urn" ["_law_state_here","_law_kinds"] sI:=O3 X G h46 (b2 fun _ _ _ _ _ _ _ _=>rfl) (fun _ _ F=>HL F B c__law_take)
 have c__law_rule:S6 l.prog w K mg base 2 "_law_rule" ["_law_state_here","_law_kinds"] kP:=O3 X G h47 (b2 fun _ _ _ _ _ _ _ _=>rfl) (fun _ _ F=>EC F B c__law_take)
 have c__law_refused:S6 l.prog w K mg base 13 "_law_refused" ["_law_call"] (eG l.prog w K mg base 12 c):=O3 X G h48 (b1 fun _ _ _ _ _ _ _=>rfl) (fun _ _ F=>yb F B R hVE)
 have c__law_urn_text:S6 l.prog w K mg base 1 "_law_urn_text" ["_law_urn_here"] mK:=O3 X G h49 (b1 fun _ _ _ _ _ _ _=>rfl) (fun _ _ F=>Lr F B2)
 have c__law_rule_text:S6 l.prog w K mg base 2 "_law_rule_text" ["_law_rule_here"] zf:=O3 X G h50 (b1 fun _ _ _ _ _ _ _=>rfl) (fun _ _ F=>Ls F c__law_urn_text)
 have c__law_fraction_text:S6 l.prog w K mg base 1 "_law_fraction_text" ["_law_part"] jQ:=O3 X G h51 (b1 fun _ _ _ _ _ _ _=>rfl) (fun _ _ F=>Lx F B2)
 have c__law_name:S6 l.prog w K mg base 2 "_law_name" ["_law_state_here","_law_names"] xu:=O3 X G h52 (b2 fun _ _ _ _ _ _ _ _=>rfl) (fun _ _ F=>Lu F B c__law_take)
 have c__law_made:S6 l.prog w K mg base 14 "_law_made" ["_law_call"] (kO l.prog w K mg base 12 c):=O3 X G h53 (b1 fun _ _ _ _ _ _ _=>rfl) (fun _ _ F=>HK F c__law_refused)
 have m___init__:uA l.prog w K mg base CD 1 "__init__" ["self"] (sL CD):=Ab hm1 (b1 fun _ _ _ _ _ _ _=>rfl) (fun _ _ F=>HN F D)
 have m_urn_by_name:jF l.prog w K mg base CD 1 "urn_by_name" ["self","name"] (xo CD c):=wd hm2 (b2 fun _ _ _ _ _ _ _ _=>rfl) (fun _ _ F=>Ll F D R)
 have m_keep:uA l.prog w K mg base CD 5 "keep" ["self","name","urn"] (sJ CD):=Ab hm3 (b3 fun _ _ _ _ _ _ _ _ _=>rfl) (fun _ _ F=>HM F D c_is_urn)
 have m_say:jF l.prog w K mg base CD 11 "say" ["self","line"] (ow CD c):=wd hm4 (b2 fun _ _ _ _ _ _ _ _=>rfl) (fun _ _ F=>Lm F D B3 c_line_read m_keep m_urn_by_name c_answer c_after)
 have c__law_line:S6 l.prog w K mg base 15 "_law_line" ["_law_state_here","_law_kept"] (xv TL):=⟨f2,_,R8 X G a2,kp2,(b2 fun _ _ _ _ _ _ _ _=>rfl) _ _ F2,Lw F2 B B2 B3 ⟨(c__law_take.up (by decide)),(c__law_name.up (by decide)),(c__law_urn.up (by decide)),(c__law_rule.up (by decide)),(c__law_urn_text.up (by decide)),(c__law_rule_text.up (by decide)),(c_after.up (by decide)),c__law_made⟩ ⟨cc2,rfl,hcd2⟩ hKb hbm2⟩
 have c__law_asked:S6 l.prog w K mg base 15 "_law_asked" ["_law_state_here","_law_urn_here"] (xw TA):=⟨f3,_,R8 X G a3,kp3,(b2 fun _ _ _ _ _ _ _ _=>rfl) _ _ F3,Lz F3 B B2 ⟨(c__law_take.up (by decide)),(c__law_rule.up (by decide)),(c__law_rule_text.up (by decide)),c__law_made,(c__law_fraction_text.up (by decide)),(c_chance.up (by decide)),(c_stands.up (by decide)),(c_mean.up (by decide)),(c_is_fair.up (by decide))⟩ ⟨cc3,rfl,hcd3⟩ hKb hbm3⟩
 exact Ly F B B3 D ⟨(c__law_state.up (by decide)),c__law_line,c__law_asked,(c__law_take.up (by decide)),(c__law_urn_text.up (by decide)),(c__law_refused.up (by decide)),(IH (R8 X G hcd') hmk hkp m___init__).up (by decide),m_say.up (by decide),m_say⟩ hN1 hN2 hN3 ⟨cc,rfl,hcd⟩ hKb hbm
theorem walk {l:Nj}{q:i8}{loose:List Str}{XP:(Str->Option b9)->Heap->Prop}{YP:t9->Heap->Prop}{d:DefRec}{K:Params->j7}{TL TA:Addr} (hn:l.most=some 63) (hdf:d.params.defaults=[])
  (hY:∀(w:t9) (h:Heap),YP w h->(K w.params).In h) (hT:∀(w:t9) (h:Heap),YP w h->∀t∈[TA,TL,T],h.get? t=some (GG #[]))
  (F:∀(w:t9) (mg:Str->Option b9) (fa:Addr) (h:Heap),(K w.params).In h->h.Ns u6 mg->mg d.name=some (.ref fa) ->
   ∃fd:A9,(∀(s:f6) (u:b9),sy s fd ⟨[u],[]⟩ [("_law_script",u)])/\(∀t∈[TA,TL,T],(K w.params).lookup t=none/\∃c,ee (K w.params) c t=true)/\∀base:Heap,(K w.params).In base->base.Ns u6 mg->base.BuiltinsAt mg TL->base.BuiltinsAt mg TA->base.BuiltinsAt mg T->G7 l.prog w (K w.params) mg base cQ 16 fa fd ["_law_script"] (zi (K w.params) T TL TA)):
  W.WalkO q loose XP YP l.row.toRowW d [] (fun f vs=>Ck f vs):=by
 have i0:TL∈[TA,TL,T]:=i4 _ f9
 have i1:TA∈[TA,TL,T]:=f9
 have i2:T∈[TA,TL,T]:=i4 _ (i4 _ f9)
 exact L2.CC (n:=63) (k:=16) (x:="_law_script") (ts:=[TA,TL,T]) (sp:=fun w=>zi (K w.params) T TL TA) hn (by decide) hdf ⟨rfl,by decide,by decide⟩ hY hT
  (fun w mg fa h kx ns hm=>by
   obtain⟨fd,b1,b2,b3⟩:=F w mg fa h kx ns hm
   exact⟨fd,b1,b2,fun base k1 k2 k3=>b3 base k1 k2 (k3 TL i0) (k3 TA i1) (k3 T i2)⟩)
  (fun _ _ a ns hl hO hS=>⟨a,ns,rfl,hS,hl,⟨#[],hO.2 T i2,trivial,fun pos v e=>by cases e⟩,⟨#[],hO.2 TL i0,trivial,fun pos v e=>by cases e⟩,⟨#[],hO.2 TA i1,trivial,fun pos v e=>by cases e⟩,fun _=>rfl⟩)
end G
namespace PySem.Challenge.cw_growurns_k93_a_desk_holds
def tw1690728048023843238:=()
def tw7807127758531003668:=()
def tw3998519212655097943:=()
def tw16332841538332128294:=()
def tw2200075627936088916:=()
def tw11932191804577557129:=()
def tw2839481720851314286:=()
def tw3683834059328264959:=()
def tw12412022505045970654:=()
def tw7285303583070732898:=()
def tw14505305413951753221:=()
def tw17941048512653408578:=()
def tw14264022851616779124:=()
def tw4014243625695917545:=()
def tw10319302479966976603:=()
def tw14017825170866404627:=()
def tw15302374554064792327:=()
def tw280024471459033766:=()
def tw10218450135339996018:=()
def tw2004239831897128236:=()
def tw16663341393623157956:=()
def tw3481039963432186847:=()
def tw10190815455391866779:=()
def tw15642144941558812551:=()
def tw9188584874369288574:=()
def tw3409888496157169023:=()
def tw3069740558777027304:=()
def tw16581387430497173126:=()
def tw11032112298347378935:=()
def tw17100790711096523221:=()
def tw4980467206051413224:=()
def tw10668023401774211019:=()
def tw394654444556013508:=()
def tw1765566767072202845:=()
def tw5859309618666742502:=()
def tw17584175070008109438:=()
def tw9736880330678334764:=()
def tw17370193272667040051:=()
def tw10583603449339596467:=()
def tw4381340339314252858:=()
def tw10088695265900637893:=()
def tw14870106499360207152:=()
def tw3074336851418641999:=()
def tw1714127563274269868:=()
def tw4510664144848365207:=()
def tw18434831663024340056:=()
def tw13192800748236541666:=()
def tw14118030102179790506:=()
def tw14940126857316269057:=()
def tw15539614569303929886:=()
def tw6584178345725195537:=()
def tw1927261996411666604:=()
def tw14503659780913697719:=()
def tw9123162675587019217:=()
def tw18383722890707023297:=()
def tw7741022542644460218:=()
def tw10218882246922329021:=()
def tw16144461318824471196:=()
def tw16710263460019431320:=()
def tw2053348326622660509:=()
def tw7059977103087889087:=()
def tw17948337361325567906:=()
def tw363723220010374114:=()
def tw1988356927709078397:=()
def tw1326823994807935089:=()
def tw17936943289008527386:=()
def tw15122337131700362614:=()
def tw9127575083767520802:=()
def tw13473420284803218008:=()
def tw13504925201174562548:=()
def tw10891536005675599688:=()
def tw8456218760612032084:=()
def tw5674687781910553929:=()
def tw14739166036209994619:=()
def tw17863580233758431190:=()
def tw17184251142893418721:=()
def tw14354257871929149096:=()
def tw10353864186029634739:=()
def tw9377096730468365546:=()
def tw8645186800239224576:=()
def tw5216358660711505281:=()
def tw13030423220062181717:=()
def tw7885126988662158913:=()
def tw8418254221853257704:=()
def tw1960281020577351453:=()
def tw10124323174927043523:=()
def tw12355342876600496586:=()
def tw4232142837451793657:=()
def tw14420711610381515660:=()
def tw13289141679991923142:=()
def tw17035711333844575918:=()
def tw6988746188865557157:=()
def tw10412934912507336031:=()
def tw834259298292136293:=()
def tw15473506103751978566:=()
def tw7211465510378593604:=()
def tw3418952461206892016:=()
def tw3654246683370211783:=()
def tw17462896155644782837:=()
def tw14732620477435539249:=()
def tw9375322525970494514:=()
def tw6487446526832363565:=()
def tw9943965917135626154:=()
def tw3697764125231756609:=()
def tw13848446660906459303:=()
def tw13931631735694392162:=()
def tw11734268902200996611:=()
def tw8812117473649992835:=()
def tw16324044966963076996:=()
def tw646348176841227386:=()
def tw15136644529889737130:=()
def tw2562226210648413183:=()
def tw12747029411791395727:=()
def tw11001235829732466350:=()
def tw4635425393868639035:=()
def tw8370631740608673371:=()
def tw6489711393020599502:=()
def tw6982337987609287996:=()
def tw4517589840024269001:=()
def tw6512245341872691343:=()
def tw13202961968034077487:=()
def tw15960321889612081884:=()
def tw1054329665344118303:=()
def tw6326645549246629093:=()
def tw4194680610299997383:=()
def tw1783420099490328997:=()
def tw12641480356521508756:=()
def tw5477227672570775688:=()
def tw11888311380714795443:=()
def tw18273117883888791774:=()
def tw957604811314520425:=()
def tw4604172791729443445:=()
def tw2937069887108854267:=()
def tw5772771994826591306:=()
def tw11794887922783388448:=()
def tw12305248463035636584:=()
def tw8053548731861569876:=()
def tw2200199656995967535:=()
def tw7685436477640894256:=()
def tw10278108628800399370:=()
def tw11213946057523396063:=()
def tw3637710070291632200:=()
def tw16369698415390446133:=()
def tw8362932349155568496:=()
def tw16221475698796263316:=()
def tw15453291400234909454:=()
def tw7586687695402197360:=()
def tw16514656056049503763:=()
def tw13202739428767139059:=()
def tw8861880124699820642:=()
def tw14451758043210916933:=()
def tw17457550886324533183:=()
def tw16107843564699867983:=()
def tw11088790957340472231:=()
def tw6546777312688569271:=()
def tw1017535362761678887:=()
def tw13478607228794456840:=()
def tw14241979803457311882:=()
def tw7028056938722580263:=()
def tw14794605955165933074:=()
def tw13520080770176359427:=()
def tw6075187201761048381:=()
def tw16599383065360789246:=()
def tw5952122302592481966:=()
def tw7351841584165256098:=()
def tw2501717854945424655:=()
def tw8156085408719986300:=()
def tw2149205490378191514:=()
def tw8339171568558114938:=()
def tw13486797496780204729:=()
def tw8252297110108464069:=()
def tw10061148109853861828:=()
def tw6357073865227688744:=()
def tw3868912635676401110:=()
def tw12368235531113875630:=()
def tw18310317532436905019:=()
def tw8877455671062023196:=()
def tw13919014876275096026:=()
def tw16309078921130839342:=()
def tw6653486989802530595:=()
def tw15096725138528727410:=()
def tw17072585170405875046:=()
def tw3327106997120625360:=()
def tw8506274892579440645:=()
def tw14972848843376696968:=()
def tw8670579221973141193:=()
def tw4171987085123349332:=()
def tw176321584650415384:=()
def tw16054381324498352286:=()
def tw15047718702372414520:=()
def tw6943376993172278479:=()
def tw8599803666429871884:=()
def tw16805267229226840856:=()
def tw2393994539611658934:=()
def tw5657464849486025920:=()
def tw7191709776595999619:=()
def tw18422760659661453120:=()
def tw4658443443232937143:=()
def tw5691765040744613661:=()
def tw2246054612910387833:=()
def tw12392177223129747934:=()
def tw14868717253797275875:=()
def tw1055509383151994173:=()
def tw7732617994465733123:=()
def tw11366088200432386988:=()
def tw1199275225704487913:=()
def tw690513248517470731:=()
def tw16092671908334404096:=()
def tw7648332559925862732:=()
def tw7540450036903597160:=()
def tw8324406544693122622:=()
def tw15148066453609100030:=()
def tw3152980974516080670:=()
def tw16974009225921036038:=()
end PySem.Challenge.cw_growurns_k93_a_desk_holds
set_option Elab.async true
open PySem PySem.W PyProof.Rows
set_option maxRecDepth 100000 in
set_option maxHeartbeats 0 in
theorem PySem.Challenge.cw_growurns_k93_a_desk_holds : PySem.Challenge.rw_growurns_k93_a_desk.Holds := by
 w_on;o_law;k_head;(case hw=>w_witness2)
 k_fill
 refine G.walk (l:=PySem.Challenge.rw_growurns_k93_a_desk) rfl rfl (fun w h Y=>W.km_in_of Y) (fun w h Y=>W.km_tabs_of Y) ?F
 case F =>
  intro w mg fa h KX NS hmg
  refine' G.Ms KX NS hmg (G.Iu KX NS ?e0 ?e1 ?e2 ?e3 ?e4 ?e5 ?e6 ?e7 ?e8 ?e9 ?eb ?eA ?eB ?eC) (G.yo KX NS ?la0 ?ll0 ?ls0 ?lk0 ?lw0 ?re0 ?rl0 ?rz0 ?rv0 ?re1 ?rl1 ?rz1 ?rv1 ?re2 ?rl2 ?rz2 ?rv2 ?re3 ?rl3 ?rz3 ?rv3 ?re4 ?rl4 ?rz4 ?rv4 ?re5 ?rl5 ?rz5 ?rv5 ?re6 ?rl6 ?rz6 ?rv6 ?re7 ?rl7 ?rz7 ?rv7) ?cd ⟨⟨?d1, ?d2, ?d3, ?d4⟩, ?d5⟩ ?d6 ?d7 (G.E5 ?a1 ?l1 ?c1 ?k1) (G.E5 ?a2 ?l2 ?c2 ?k2) (G.E5 ?a3 ?l3 ?c3 ?k3) (G.E5 ?a4 ?l4 ?c4 ?k4) (G.E5 ?a5 ?l5 ?c5 ?k5) (G.E5 ?a6 ?l6 ?c6 ?k6) (G.E5 ?a7 ?l7 ?c7 ?k7) (G.E5 ?a8 ?l8 ?c8 ?k8) (G.E5 ?a9 ?l9 ?c9 ?k9) (G.E5 ?a10 ?l10 ?c10 ?k10) (G.E5 ?a11 ?l11 ?c11 ?k11) (G.E5 ?a12 ?l12 ?c12 ?k12) (G.E5 ?a13 ?l13 ?c13 ?k13) (G.E5 ?a14 ?l14 ?c14 ?k14) (G.E5 ?a15 ?l15 ?c15 ?k15) (G.E5 ?a16 ?l16 ?c16 ?k16) (G.E5 ?a17 ?l17 ?c17 ?k17) (G.E5 ?a18 ?l18 ?c18 ?k18) (G.E5 ?a19 ?l19 ?c19 ?k19) (G.E5 ?a20 ?l20 ?c20 ?k20) (G.E5 ?a21 ?l21 ?c21 ?k21) (G.E5 ?a22 ?l22 ?c22 ?k22) (G.E5 ?a23 ?l23 ?c23 ?k23) (G.E5 ?a24 ?l24 ?c24 ?k24) (G.E5 ?a25 ?l25 ?c25 ?k25) (G.E5 ?a26 ?l26 ?c26 ?k26) (G.E5 ?a27 ?l27 ?c27 ?k27) (G.E5 ?a28 ?l28 ?c28 ?k28) (G.E5 ?a29 ?l29 ?c29 ?k29) (G.E5 ?a30 ?l30 ?c30 ?k30) (G.E5 ?a31 ?l31 ?c31 ?k31) (G.E5 ?a32 ?l32 ?c32 ?k32) (G.E5 ?a33 ?l33 ?c33 ?k33) (G.E5 ?a34 ?l34 ?c34 ?k34) (G.E5 ?a35 ?l35 ?c35 ?k35) (G.E5 ?a36 ?l36 ?c36 ?k36) (G.E5 ?a37 ?l37 ?c37 ?k37) (G.E5 ?a38 ?l38 ?c38 ?k38) (G.E5 ?a39 ?l39 ?c39 ?k39) (G.E5 ?a40 ?l40 ?c40 ?k40) (G.E5 ?a41 ?l41 ?c41 ?k41) (G.E5 ?a42 ?l42 ?c42 ?k42) (G.E5 ?a43 ?l43 ?c43 ?k43) (G.E5 ?a44 ?l44 ?c44 ?k44) (G.E5 ?a45 ?l45 ?c45 ?k45) (G.E5 ?a46 ?l46 ?c46 ?k46) (G.E5 ?a47 ?l47 ?c47 ?k47) (G.E5 ?a48 ?l48 ?c48 ?k48) (G.E5 ?a49 ?l49 ?c49 ?k49) (G.E5 ?a50 ?l50 ?c50 ?k50) (G.E5 ?a51 ?l51 ?c51 ?k51) (G.E5 ?a52 ?l52 ?c52 ?k52) (G.E5 ?a53 ?l53 ?c53 ?k53) (G.nW ?ma1 ?mf1 ?ml1 ?mc1 ?mk1) (G.nW ?ma2 ?mf2 ?ml2 ?mc2 ?mk2) (G.nW ?ma3 ?mf3 ?ml3 ?mc3 ?mk3) (G.nW ?ma4 ?mf4 ?ml4 ?mc4 ?mk4) (G.ub ?la ?ll ?lc ?lk ?lt ?ln) (G.ub ?oa0 ?ol0 ?oc0 ?ok0 ?ot0 ?on0) (G.ub ?oa1 ?ol1 ?oc1 ?ok1 ?ot1 ?on1) ?tt1 ?tt2 ?tt3 ?z1 ?z2 ?z3 ?z4 ?z5 ?z6 ?z7 ?z8 ?z9 ?z10 ?z11 ?z12 ?z13 ?z14 ?z15 ?z16 ?zV ?m1 ?m2 ?m3 ?m4 ?mL ?mF
  case e0|e1|e2|e3|e4|e5|e6|e7|e8|e9|eb=>k_is
  case eA|eB|eC=>kernel_rfl
  case la0|ll0=>k_is
  case ls0=>decide
  case lk0=>k_keys
  case lw0=>kernel_rfl
  case re0|rl0=>k_is
  case rz0=>decide
  case rv0=>exact(.cons ⟨_, rfl⟩ (.cons ⟨_, rfl⟩ .nil))
  case re1|rl1=>k_is
  case rz1=>decide
  case rv1=>exact(.cons ⟨_, rfl⟩ (.cons ⟨_, rfl⟩ (.cons ⟨_, rfl⟩ (.cons ⟨_, rfl⟩ .nil))))
  case re2|rl2=>k_is
  case rz2=>decide
  case rv2=>exact .nil
  case re3|rl3=>k_is
  case rz3=>decide
  case rv3=>exact(.cons ⟨_, rfl⟩ .nil)
  case re4|rl4=>k_is
  case rz4=>decide
  case rv4=>exact(.cons ⟨_, rfl⟩ (.cons ⟨_, rfl⟩ .nil))
  case re5|rl5=>k_is
  case rz5=>decide
  case rv5=>exact(.cons ⟨_, rfl⟩ (.cons ⟨_, rfl⟩ (.cons ⟨_, rfl⟩ .nil)))
  case re6|rl6=>k_is
  case rz6=>decide
  case rv6=>exact(.cons ⟨_, rfl⟩ (.cons ⟨_, rfl⟩ (.cons ⟨_, rfl⟩ .nil)))
  case re7|rl7=>k_is
  case rz7=>decide
  case rv7=>exact(.cons ⟨_, rfl⟩ (.cons ⟨_, rfl⟩ .nil))
  case cd=>k_is
  case d1|d2|d3|d4=>kernel_rfl
  case d5=>(show N0 _ _ _ = _;kernel_rfl)
  case d6|d7=>kernel_rfl
  case a1|l1|c1|k1|a2|l2|c2|k2|a3|l3|c3|k3|a4|l4|c4|k4|a5|l5|c5|k5|a6|l6|c6|k6|a7|l7|c7|k7|a8|l8|c8|k8|a9|l9|c9|k9|a10|l10|c10|k10|a11|l11|c11|k11|a12|l12|c12|k12|a13|l13|c13|k13|a14|l14|c14|k14|a15|l15|c15|k15|a16|l16|c16|k16|a17|l17|c17|k17|a18|l18|c18|k18|a19|l19|c19|k19|a20|l20|c20|k20|a21|l21|c21|k21|a22|l22|c22|k22|a23|l23|c23|k23|a24|l24|c24|k24|a25|l25|c25|k25|a26|l26|c26|k26|a27|l27|c27|k27|a28|l28|c28|k28|a29|l29|c29|k29|a30|l30|c30|k30|a31|l31|c31|k31|a32|l32|c32|k32|a33|l33|c33|k33|a34|l34|c34|k34|a35|l35|c35|k35|a36|l36|c36|k36|a37|l37|c37|k37|a38|l38|c38|k38|a39|l39|c39|k39|a40|l40|c40|k40|a41|l41|c41|k41|a42|l42|c42|k42|a43|l43|c43|k43|a44|l44|c44|k44|a45|l45|c45|k45|a46|l46|c46|k46|a47|l47|c47|k47|a48|l48|c48|k48|a49|l49|c49|k49|a50|l50|c50|k50|a51|l51|c51|k51|a52|l52|c52|k52|a53|l53|c53|k53|ma1|mf1|ml1|mc1|mk1|ma2|mf2|ml2|mc2|mk2|ma3|mf3|ml3|mc3|mk3|ma4|mf4|ml4|mc4|mk4|la|ll|lc|lk=>k_is
  case lt|ln=>kernel_rfl
  case oa0|ol0|oc0|ok0=>k_is
  case ot0|on0=>kernel_rfl
  case oa1|ol1|oc1|ok1=>k_is
  case ot1|on1=>kernel_rfl
  case tt1|tt2|tt3=>decide
  case z1|z2|z3|z4|z5|z6|z7|z8|z9|z10|z11|z12|z13|z14|z15|z16|zV|m1|m2|m3|m4|mL|mF=>k_is
#print axioms PySem.Challenge.cw_growurns_k93_a_desk_holds
