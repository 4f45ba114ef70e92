import PyProof.Rows.All
import Wide.All
import OpenK.AllK
import Wide.FinOn
import Lean
import PyProof.EqAt
import PyProof.EqKinds
import PyProof.TupleCall
import KE.KIsAll
import KE.KLam
import KE.KTryDeep
import PyProof.ExcAttrAll.ValueError
import KE.KSortTup
import KE.KItemsList
import PyProof.Rows.SortRuns
import KE.KDictList
import PySem.Challenge.RW_growurns_k21_stands
open PySem renaming wpAny_bind→b7,Value→b9,wpAny_pure→d6,Shared→d9,sizeLine→i0,wpAny→j6,Program→j7,model→r6,mainGlobals→t8,World→u9,starEach→A4,PyData→A7,Around→A8,wpAny_newObj_type→B6,wpAny_callSpecial?_slot→C0,wpAny_field→C3,boot_len→C4,FuncData→C5,wpAny_setField_rec→D4,wpAny_call_entry→D5,wpAny_mono→F5,wpAny_typeNameOfWhole_itemiter→G0,wpAny_typeNameOf_itemiter→K7,wpAny_holding→L8,DictEntry→M4,wpAny_attempt→Q2,wpAny_rule→Q9,cellsFrom→R0,wpAny_truthy_bool→S8,wpAny_isOneOf_itemiter→S9,Scope→T5,compareOp→T6,rawInt→U9,wpAny_dictEntries→W1,bootBuiltins→X1,sizeLine_eq→X6,wpAny_setField→X9,sysModules→Y0,pyNext→Y1,binaryOp→Y2,wpAny_dictEpoch→Z1,wpAny_fieldsOf→aA,firstArgMember→aB,NameKind→aD,wpAny_typeNameOfWhole_keyiter→aQ,wpAny_pyIter_tuple→aV,backTo→aW,wpAny_passesOwn→bj,mem_of_lookup→bJ,wpAny_seqItems→bS,IsItemIter→bU,Builtin→cg,wpAny_typeNameOf_keyiter→cN,behindInMarks→cO,wpAny_execs_nil→cZ,codeAny→dc,wpAny_Call_Name_kw→dq,tupleKind→dE,Arguments→dH,wpAny_bindName→dW,bindName→dY,cLine→fA,wpAny_isInstance→fC,assignEach→fE,wpAny_standAt→fJ,codeAny_mono→gJ,codeAmong→ir,TriplesOk→iu,wpAny_newTuple→iB,setField→iG,isSubtype_stop→iH,call_meets→iJ,getItem→jt,plainId_quiet→jE,attributeBase→jF,assignInOrder→jG,pushCells→jZ,builtinsNs→kR,letOwnedTupleGo→lO,codeAny_builtin→lP,Model→lQ,wpAny_of_eq→nV,pyIter→nW,IsPart→nY,swapsWith→om,Keyword→oq,wpAny_onRaise→qV,wpAny_handled→qW,swappedStores→qX,strLen_append→qY,field→qZ,wpAny_call→rn,wpAny_Constant_int→rA,typeIs_int→rB,tupleKind_room_in1→rC,assign→rD,IsPair→rF,wpAny_typeOf→sS,wpAny_pyIter_slot→sT,wpAny_pyIter_list→sU,valueAt→sV,relabel→sW,foldedSetIterable→tf,callerA→tj,BindsTo→tF,wpAny_execs_cons→vd,updateSeq→ve,setFlight→vf,noFill_tuple_add→vg,newExc→vh,wpAny_throw→wX,wpAny_letGo→wY,subscripted→wZ,wpAny_updateSeq→xu,wpAny_loadPart'→xv,pushCells_keeps→xw,wpAny_newFunctionEnv_cells→Ae,newTuple→Af,newFunctionEnv→Ag,bindArgs→Aj,atKey→Ak,Paired→Ao,IsZip→Aq,wpAny_binaryOp_repeat_ref→Bv,evalArgs_none→Bz,wpAny_newList→BJ,wpAny_comprehension_free→BK,swapsWithSole→BL,seq_tuple_add→BN,call→BV,IsItemIterOut→Cd,wpAny_Call_method0_late→EB,noteFrame→EC,bindL→EE,bindC→EF,CmpOp→EL,seqIndex_neg→ET,leaving→EV,concat_meets→EW,call_meetsIn→EX,Result→Fd,seqSlot_of→Fe,IsEnum→Fi,wpAny_notOrdered_dict→Gn,wpAny_isTrue_Compare1→Gp,wpAny_isOneOf_keyiter→Gq,codeAny_call_function→Gr,wpAny_updateSeq_pair→GW,unbindBehindTheSuite→GX,seqIndex_of→GY,raiseNew→GZ,keywordEach→Hn,Meets→Hv,wpAny_Name→JS,typeLookup→JT,isTrue→JU,entryOfKey→JV,Within→Kb,wpAny_sequenceKey→LN,wpAny_pyIter_enum→LO,wpAny_assign_Name→LP,holding→LS,wpAny_pyIter_zip→Mi,onTheHeap→Ml,joinParts→Mm,IsEnumOut→Mw
open PySem.Heap renaming get?_push_of_some→d7,lt_size→i5,get?_push_size→j9,size_push→D3,get?_update_other→E8,SameBut→G2,get?_update_self→L7,ExtBut→eM,size_update→iT,get?_none_of_le→kM,IsTuple→LW
open List renaming length_map→d8,getElem?_eq_getElem→f7,mem_cons_of_mem→i3,mem_cons_self→i4,mem_of_getElem?→m8,length_cons→m9,size_toArray→q9,replicate→u5,length_take→v7,mem_append_right→v9,getElem?_map→w5,length_append→w9,not_mem_nil→y7,mem_cons→A0,getD_eq_getElem?_getD→A2,map_cons→A9,map_append→B0,mem_of_mem_take→C9,take_length→E2,take_add_one→E3,lookup_cons→E5,take_of_length_le→G6,mem_append_left→G7,range→J9,length_drop→K0,getElem_mem→K9,mem_of_mem_drop→N7,getElem?_set_ne→N8,getElem?_drop→N9,length_nil→O0,length_replicate→P1,drop_zero→P2,nodup_cons→P7,all_map→P8,getElem?_take→Q0,map_map→R8,drop_eq_nil_of_le→R9,take_append_drop→T7,append_nil→V5,sum_cons→W6,cons_append→W7,append_assoc→Y5,replicate_succ→Z4,zip_cons_cons→au,getElem?_set_self→av,all_replicate→aw,length_set→aI,perm_append_comm→aU,getElem_map→bF,mem_or_eq_of_mem_set→bK,eq_of_mem_replicate→bV,nil_append→bW,find?_cons→bX,pairwise_map→de,forIn_cons→fB,reverse_append→fF,length_zipWith→fG,filterMap_cons→fH,toArray→fK,forIn_nil→fX,getElem_inj→iQ,of_mem_zip→jJ,getElem?_zipWith→jS,getElem?_eq_none→jT,replicate_succ'→kK,drop_drop→kL,getElem?_range→lR,set_comm→lU,any_cons→lV,ext_getElem?→oo,zipIdx_cons→rf,map_snd_zip→rg,all_eq_true→rh,drop_append_of_le_length→rE,take_take→uS,nodup_nil→uU,getElem?_zip_eq_some→vj,drop_eq_getElem_cons→vk,all_cons→xh,getElem?_replicate→xy,zipWith→yR,map_set→yS,map_nil→yT,reverse_reverse→BC,map_id→BD,length→BE,getElem_toArray→BF,getElem?_append→BG,map_congr_left→Ca,getElem_of_mem→Cb,map_replicate→EI,foldl→EJ,take_sublist→Ff,length_range→Fg,flatten_cons→Fh,map_fst_zip→Gs,filter_cons→Gu,countP_cons→Gv,any_eq_true→Gw,zipIdx_nil→HC,range_succ→HD,length_zip→HH,map_take→Ke,map_drop→Kf
open Nat renaming le_refl→i6,le_trans→j0,ne_of_lt→n0,zero_le→v8,lt_of_lt_of_le→A3,pow_le_pow_right→B1,lt_of_le_of_lt→B8,ne_of_gt→B9,mul_le_mul→E4,le_add_right→E6,zero_add→K5,lt_succ_of_lt→M0,pow_add→Q7,mul_le_mul_left→S1,pos_of_ne_zero→U0,lt_succ_self→U1,mul_add→V0,le_add_left→V7,pow_lt_pow_right→Y8,le_succ→Y9,le_of_lt→aC,lt_irrefl→aR,lt_succ_of_le→bh,mul_ne_zero→cD,not_lt_of_le→ef,log2_lt→fb,pow_succ→fP,mul_pos→iw,sub_zero→jI,min_eq_left→jR,le_mul_of_pos_right→yQ,le_of_eq→Ap,not_succ_le_self→BW,mul_one→BX,mul_le_mul_right→BZ,le_of_not_lt→Hu,strongRecOn→JB,max_eq_left→JC,mul_comm→Ms,lt_trans→Mu,gcd_comm→Mv
open PyProof.Rows renaming wpS_bind→i7,wpS_pure→j8,Keyed→n6,boot_isinstance→r0,boot_tuple→E7,wpS_forRange→G5,wpS_modify→G8,SortSt→G9,mirror→N0,wpS_mono→X0,slot_tuple_getitem→X2,wpS_get→Y4,pendingOf→Z2,boot_list→Z3,envOfC→ae,callWith_type1→af,IntsAre→az,assignInOrder_cons→aX,seqObj→bA,arrOf→dF,failedOf→dX,SortKind→dZ,wpS_lift→fO,AllBare→ju,boot_all→nX,assignInOrder_nil→tm,IsTup→xj,boot_sum→Ah,boot_int→Ai,subscriptTail→BM,boot_bool→ED,subscriptTail_builtinR→ES,minRun'_succ→EU,getElem?_mirror_all→Jv,entry_tuple_getitem→Jw,args_tuple_getitem→JW,Subscript_→Ka,unpackItems_tuple→LQ,minRun'→LR,sortRuns'→Mj
open PySem.W renaming Frag→m6,mg_none_of→K6,nsIn→O6,findIn→X7,mg_of→ai,kia_one→bg,kitOne→cI,keepIn→cJ,kia_tup→eZ,fnOf→gK,codeIn→jH,codeHdIn→ke,specialIn→lT,subIn→mZ,envX→oS,cellsFrom_some→tq,clsIn→xb,kitCls→xx,takesIn→Bw,kla_obj→Bx,kitx_tuple→BO,KdxIt→BP,tabObj→EY,methodObj→EZ,kitx_none→Fb,kitx_list→Fc,kitx_int→Hq,kat_cons→Ht,mroIn→Jx,excIn→Jy,Looks→Jz,instObj→JX,findObj→JY,OpenLaw→JZ,looks_findIn→Mn,lookIn→Mo,InstAt→Mp
open PySem.Value renaming ref→n5,none→B5,bool→R1,builtin→bT,type→iU,int→oU,str→xf,notImplemented→Al,isInt→Am,isStrOf→JA,float→LV
open Bool renaming false_ne_true→t7,and_eq_true→y6,false_eq_true→F9,false_and→P3,true_and→R3,not_eq_true'→Y6,eq_iff_iff→aK,not_true→iy,not_eq_false'→ni,false_or→xl,true_or→yU,and_false→JH
open PyProof.Rows.SortSt renaming mk'→t9
open Or renaming inl→A5,inr→gD
open PySem.Builtin.Int renaming intBits→A6
open Option.some renaming inj→C1
open Array renaming length_toList→D9,toList_append→G3,getElem?_eq_getElem→O4,getElem?_toList→aM,toList_push→cQ,toList_reverse→eh,getElem?_eq_none→iW,getElem?_setIfInBounds_self_of_lt→jU,size_extract→Cj,getD→Ck,toList→Kk
open Int renaming le_trans→E9,toNat_natCast→M3,natAbs_natCast→Q4,gcd→U8,natAbs_mul→ag,le_of_lt→aE,emod_lt_of_pos→aF,natCast_mul→cE,emod_nonneg→cF,mul_nonneg→dw,le_refl→fg,fdiv_eq_ediv_of_nonneg→vm,gcd_zero_right→Fj,add_nonneg→Kg
open PySem.Builtin.SmallTypes renaming nextOf→F2,ownedTupleIsFree→I0,ownedTupleHandOut→S7
open Ne renaming symm→F6
open False renaming elim→F7
open PySem.F renaming slot_dict_itemiterator_next→G4,args_dict_itemiterator_next_1→aa,plain_extend_loop→ak,entry_dict_itemiterator_next→aq,slot_dict_keyiterator_next→aZ,slot_tuple_iterator_next→bM,slot_enumerate_next→eO,args_tuple_add_2→fY,slot_dict_items→gM,plainAttrs_dict→gN,entry_tuple_add→gO,slot_tuple_add→iK,slot_dict_get→iV,slot_zip_next→kN,slot_int_rmul→kO,args_tuple_mul_2→oX,entry_tuple_mul→rG,slot_tuple_mul→tu,args_dict_keyiterator_next_1→tD,type_dict_items→uP,plainAttrs_list→uQ,args_dict_get_3→uR,slot_dict_itemiterator_iter→uV,entry_dict_keyiterator_next→uW,entry_dict_get→vi,args_tuple_iterator_next_1→vn,entry_tuple_iterator_next→xk,args_enumerate_next_1→BH,slot_dict_items_iter→Cf,entry_enumerate_next→Cg,entry_extend_loop→Gx,plain_list_iadd→JD,args_zip_next_1→JE,args_int_rmul_2→JG,slot_dict_iter→Kh,entry_zip_next→Ki,entry_int_rmul→Kj,fills_int_mul→LX
open PySem.Builtin.Dict_items renaming ownsTuple→J8,ownedTupleIsFree→T8,pairFromOwner→V6,ownedTupleFields→fZ
open PySem.PyData renaming eqvAll→K1,int→K8,canLayAll0→L6,canLay0→N3,depthAll→N4,depth→V9,eqv→aj
open PySem.PassesOwn renaming never→K3
open PySem.Str renaming ofString→P9
open PySem.Obj renaming data_mapFields→Q3,mapFields→R7,mapSeq→X3,isFreed_of_fields→aY,cls_mapFields→oW
open PySem.Heap.SameBut renaming update→Q5
open True renaming intro→R6
open Sum renaming inl→S0,inr→oV
open PySem.NameKind renaming free→V8,cell→du
open PySem.SeqAt renaming shaped→Y3,EqAt→BU
open Option renaming map_some→ar,map→BA,isSome_some→BB,bind_some→EH,none→Kd
open PySem.Builtin.Slice renaming slicePlaces→aJ,sliceAdjust→eg,sliceApplied→lZ
open PySem.Builtin.Tuple renaming tupleExact→ba,tupleItemsOf→lX,tupleIsExact→lY
open ForInStep renaming yield→bG,done→Ce
open PySem.AutoSeq1 renaming wpAny_loadPart'→bH
open List.Pairwise renaming nil→bL,imp_of_mem→fe,sublist→rj
open List.Perm renaming refl→bZ,swap→Cc
open PySem.Builtin.Dict renaming showsAll→cf
open PySem.Calls renaming callWith_builtin→cP,evalArgs_plain→kg,spliced_cons→lW,Name_function_global→tE,call_function_entry→uZ,Constant_str→Ci,spliced_nil→EM
open PySem.Builtin.List renaming listExtendWith→dG,listSameRef→ou
open PySem.Shared renaming TypeIs→dJ,heap→yP
open PySem.Paired renaming length→dM,snoc→Kc
open PySem.Around renaming under_plainId→dR,frames_deeper→yV
open Rat renaming mul_le_mul_of_nonneg_right→ee,mul_nonneg→kS,mkRat_def→ng,le_of_lt→Mr
open PyProof.Rows.IsTup renaming new→iL
open PySem.Builtin.ObjectAttr renaming bindTo→ki
open PySem.EntryCells renaming newEntry→vo
open PySem.SeqAt.EqAt renaming int_int→xg,same→An
open PySem.Flow renaming next→xA
open PySem.W.KatTups renaming cons→BR,nil→EG
open PySem.DictEntry renaming key→EK
open PySem.W.WShape renaming has→LU
open PySem.CmpOp renaming NotIn→LY
set_option Elab.async false
set_option linter.all false
set_option maxRecDepth 100000
namespace L2
open PySem PySem.Spec PyProof.Rows
noncomputable abbrev S6:=Sum Int Str
noncomputable def nK:S6->b9->Bool
 | .inl k,v=>Am k v
 | .inr x,v=>JA x v
noncomputable def keyH (w:u9):S6->Int
 | .inl k=>hashInt k
 | .inr x=>hashStr w x
theorem X5:∀{k:S6}{v:b9},nK k v=true->(∃i t,k=S0 i/\v=oU i t) ∨ (∃x t,k=oV x/\v=xf x t)
 | .inl i,v,h=>by
  obtain ⟨t,e⟩:=Value.isInt_shape (k:=i) (v:=v) h
  exact .inl ⟨i,t,rfl,e⟩
 | .inr x,v,h=>by
  obtain ⟨t,e⟩:=Value.isStrOf_shape (x:=x) (v:=v) h
  exact .inr ⟨x,t,rfl,e⟩
theorem AX (i:Int) (t:Tok):nK (.inl i) (.int i t)=true:=by simp[nK,Am]
theorem AW (x:Str) (t:Tok):nK (.inr x) (.str x t)=true:=by simp[nK,JA]
theorem IY (a b:Int):decide ((S0 a:S6)=S0 b)=(a == b):=by
 by_cases e:a=b
 ·subst e;simp
 ·have h:¬ (S0 a:S6)=S0 b:=fun q=>e (Sum.inl.inj q)
  rw[decide_eq_false h]
  exact (beq_eq_false_iff_ne.mpr e).symm
theorem IV (a b:Str):decide ((oV a:S6)=oV b)=decide (a=b):=by
 by_cases e:a=b
 ·subst e;simp
 ·have h:¬ (oV a:S6)=oV b:=fun q=>e (Sum.inr.inj q)
  rw[decide_eq_false h,decide_eq_false e]
theorem IX (a:Int) (b:Str):decide ((S0 a:S6)=oV b)=false:=decide_eq_false (fun q=>nomatch q)
theorem IW (a:Str) (b:Int):decide ((oV a:S6)=S0 b)=false:=decide_eq_false (fun q=>nomatch q)
noncomputable def U6 (prog:j7) (w:u9):PySem.KeyKind prog w S6 where
 is:=nK
 hash:=keyH w
 inj:=fun v a b ha hb=>by
  rcases X5 ha with ⟨i,t,rfl,rfl⟩|⟨x,t,rfl,rfl⟩
  ·rcases X5 hb with ⟨j,u,rfl,e⟩|⟨y,u,rfl,e⟩
   ·injection e with e1 _;rw[e1]
   ·exact nomatch e
  ·rcases X5 hb with ⟨j,u,rfl,e⟩|⟨y,u,rfl,e⟩
   ·exact nomatch e
   ·injection e with e1 _;rw[e1]
 byValue:=fun k v h=>by
  rcases X5 h with ⟨i,t,rfl,rfl⟩|⟨x,t,rfl,rfl⟩ <;> rfl
 pyHash:=fun hv h=>by
  rcases X5 hv with ⟨i,t,rfl,rfl⟩|⟨x,t,rfl,rfl⟩
  ·exact wpAny_pyHash_int h
  ·exact wpAny_pyHash_str h
 eqBool:=fun hu hv h=>by
  rcases X5 hu with ⟨i,t,rfl,rfl⟩|⟨x,t,rfl,rfl⟩
  ·rcases X5 hv with ⟨j,u,rfl,rfl⟩|⟨y,u,rfl,rfl⟩
   ·rw[IY] at h;exact wpAny_eqBool_int h
   ·rw[IX] at h;exact SeqAt.EqAt.int_str i t y u _ _ _ _ h
  ·rcases X5 hv with ⟨j,u,rfl,rfl⟩|⟨y,u,rfl,rfl⟩
   ·rw[IW] at h;exact SeqAt.EqAt.str_int x t j u _ _ _ _ h
   ·rw[IV] at h;exact wpAny_eqBool_str h
 «strs»:=fun k x t v h=>by
  rcases X5 h with ⟨i,u,rfl,e⟩|⟨y,u,rfl,e⟩
  ·exact nomatch e
  ·injection e with e1 _
   subst e1
   cases v <;> rfl
theorem wb (prog:j7) (w:u9) (i:Int) (t:Tok):(U6 prog w).is (.inl i) (.int i t)=true:=AX i t
theorem wa (prog:j7) (w:u9) (x:Str) (t:Tok):(U6 prog w).is (.inr x) (.str x t)=true:=AW x t
inductive V where
 | non|bl (b:Bool)|int (i:Int)|str (x:Str)|byt (b:Array UInt8)|flt (b:UInt64)|ref (a:Addr)|ty (n:String)
 deriving DecidableEq
noncomputable def K2:V->b9->Prop
 | .non,u=>u=B5
 | .bl b,u=>u=R1 b
 | .int i,u=>∃t,u=oU i t
 | .str x,u=>∃t,u=xf x t
 | .byt b,u=>∃t,u=Value.bytes b t
 | .flt b,u=>∃t,u=LV b t
 | .ref a,u=>u=n5 a
 | .ty n,u=>u=iU n
noncomputable abbrev K4:List V->List b9->Prop:=Ao K2
theorem K4.length {xs:List V}{us:List b9} (r:K4 xs us):xs.length=us.length:=dM r
theorem K4.get:∀{xs:List V}{us:List b9}{i:Nat}{x:V},K4 xs us->xs[i]?=some x->∃u,us[i]?=some u/\K2 x u
 | _,_,_,_,.nil,e=>by simp at e
 | _,_,0,_,.cons r _,e=>by simp at e;subst e;exact ⟨_,rfl,r⟩
 | _,_,i+1,x,.cons _ t,e=>by
  obtain ⟨u,h1,h2⟩:=K4.get (i:=i) (x:=x) t (by simpa using e)
  exact ⟨u,by simpa using h1,h2⟩
theorem K4.set {x:V}{u:b9} (r:K2 x u):∀{xs:List V}{us:List b9} (i:Nat),K4 xs us->K4 (xs.set i x) (us.set i u)
 | _,_,_,.nil=>.nil
 | _,_,0,.cons _ t=>.cons r t
 | _,_,i+1,.cons q t=>.cons q (K4.set r i t)
theorem K4.append:∀{xs ys:List V}{us ws:List b9},K4 xs us->K4 ys ws->K4 (xs++ys) (us++ws)
 | _,_,_,_,.nil,s=>s
 | _,_,_,_,.cons r t,s=>.cons r (K4.append t s)
theorem K4.take:∀{xs:List V}{us:List b9} (n:Nat),K4 xs us->K4 (xs.take n) (us.take n)
 | _,_,0,_=>.nil
 | _,_,_+1,.nil=>.nil
 | _,_,n+1,.cons r t=>.cons r (K4.take n t)
theorem K4.drop:∀{xs:List V}{us:List b9} (n:Nat),K4 xs us->K4 (xs.drop n) (us.drop n)
 | _,_,0,r=>r
 | _,_,_+1,.nil=>.nil
 | _,_,n+1,.cons _ t=>K4.drop n t
noncomputable def mW:Option V->Option b9->Prop
 | some v,some u=>K2 v u
 | none,none=>True
 | _,_=>False
noncomputable def KV {κ:Type}:List (κ × V)->List (κ × b9)->Prop:=Ao fun (p:κ × V) (q:κ × b9)=>p.1=q.1/\K2 p.2 q.2
noncomputable def kV:S6->V
 | .inl i=>.int i
 | .inr x=>.str x
inductive HO where
 | lst (xs:List V)
 | tup (xs:List V)
 | dK (kvs:List (S6 × V))|dT (kvs:List (List S6 × V))
 | set (S:Int->Bool) (n:Nat)
 | ins (C dx:Addr) (fs:List (Str × V))
 | own (x:Addr)
 | xd (fs:List (Str × V))
 | met (f x:Addr)
 | rng (lo hi:Int)
 | frz (o:Obj) (u:HO)
 | tbl (ps:Array b9)
 | ext (φ:Heap->Prop)
noncomputable abbrev Hp:=Addr->Option HO
noncomputable def n8 (H:Hp) (a:Addr) (o:HO):Hp:=fun b=>if b=a then some o else H b
variable {H:Hp}{a:Addr}{o:HO}
theorem f9 :n8 H a o a=some o:=by unfold n8;rw[if_pos rfl]
variable {b:Addr}
theorem A1 (h:b≠a):n8 H a o b=H b:=by unfold n8;rw[if_neg h]
theorem qx {u:HO} (h:H a=some o) (h':H b=some u) (d:o≠u):a≠b:=by
 intro e;subst e;rw[h] at h';exact d (C1 h')
theorem v5 (h:H a=some o) (h':H b=none):a≠b:=by
 intro e;subst e;rw[h] at h';cases h'
section
variable (P:j7) (w:u9)
noncomputable def M9 (H:Hp) (h:Heap) (a:Addr):HO->Prop
 | .lst xs=>xs.length<=i0/\∃(its:List b9) (n:Nat),K4 xs its/\h.get? a=some { cls:=.type "list",data:=.seq its.toArray n }
 | .tup xs=>xs.length<=i0/\∃its:List b9,K4 xs its/\xj h a its.toArray
 | .dK kvs=>kvs.length<=i0/\(a == Y0)=false/\∃vs,KV kvs vs/\h.DictOf (U6 P w) a vs
 | .dT kvs=>kvs.length<=i0/\(a == Y0)=false/\∃xs:List (List S6 × Addr × b9),
   Ao (fun (p:List S6 × V) (q:List S6 × Addr × b9)=>p.1=q.1/\H q.2.1=some (.tup (p.1.map kV))/\K2 p.2 q.2.2) kvs xs /\
   ∃o es ep,h.get? a=some o/\o.ExactDict/\o.data=.dict es ep/\es.toList=xs.map (JV (dE (U6 P w)))/\(xs.map (·.1)).Nodup
 | .set S n=>h.SetOf (intKind P w) a S n
 | .ins C dx fs=>H dx=some (.own a)/\fs.length<=1000/\dx≠a/\h.get? a=some (JX C dx) /\
   ∃mA,h.Ns1 dx mA/\(∀f,mW (fs.lookup f) (mA f))/\Kb mA (fs.map (·.1))
 | .own _=>∃o,h.get? a=some o
 | .xd fs=>∃mA,h.Ns1 a mA/\∀f,mW (fs.lookup f) (mA f)
 | .rng lo hi=>∃t u v,h.get? a=some { cls:=.type "range",data:=.fields #[.int lo t,.int hi u,.int 1 v] }
 | .frz o u=>h.get? a=some o/\M9 H h a u
 | .tbl ps=>h.get? a=some { cls:=.none,data:=.fields ps }
 | .met f x=>h.get? a=some (EZ (.ref f) (.ref x))
 | .ext φ=>φ h/\(∃o,h.get? a=some o)/\∀h1 h2:Heap,φ h1->(∀o,h1.get? a=some o->h2.get? a=some o)->φ h2
noncomputable def cG (H:Hp) (h:Heap):Prop:=∀a o,H a=some o->M9 P w H h a o
end
section
variable {P:j7}{w:u9}{H H':Hp}{h h':Heap}{a:Addr}{o:HO}
theorem M9.lt (x:M9 P w H h a o):a<h.objs.size:=by
 cases o with
 | lst xs=>obtain ⟨_,_,_,_,e⟩:=x;exact i5 e
 | tup xs=>obtain ⟨_,_,_,p⟩:=x;exact p.lt
 | dK kvs=>obtain ⟨_,_,_,_,o,_,_,e,_⟩:=x;exact i5 e
 | dT kvs=>obtain ⟨_,_,_,_,o,_,_,e,_⟩:=x;exact i5 e
 | set S n=>obtain ⟨o,_,_,_,e,_⟩:=x;exact i5 e
 | ins C dx fs=>obtain ⟨_,_,_,e,_⟩:=x;exact i5 e
 | own y=>obtain ⟨_,e⟩:=x;exact i5 e
 | xd fs=>obtain ⟨_,⟨_,_,_,e,_⟩,_⟩:=x;exact i5 e
 | rng lo hi=>obtain ⟨_,_,_,e⟩:=x;exact i5 e
 | frz ob u=>obtain ⟨e,_⟩:=x;exact i5 e
 | tbl ps=>exact i5 (show h.get? a=some _ from x)
 | met f y=>exact i5 (show h.get? a=some _ from x)
 | ext φ=>obtain ⟨_,⟨_,e⟩,_⟩:=x;exact i5 e
theorem Paired.mapP {α β:Type}{F G:α->β->Prop}:∀{l₁:List α}{l₂:List β},Ao F l₁ l₂->(∀a b,F a b->G a b)->Ao G l₁ l₂
 | _,_,.nil,_=>.nil
 | _,_,.cons r t,f=>.cons (f _ _ r) (Paired.mapP t f)
theorem M9.stay (x:M9 P w H h a o) (k:∀b u,(b=a ∨ H b=some (.own a))->h.get? b=some u->h'.get? b=some u)
  (ho:∀b,H b=some (.own a)->H' b=some (.own a)) (ht:∀b xs,H b=some (.tup xs)->H' b=some (.tup xs)):M9 P w H' h' a o:=by
 induction o with
 | lst xs=>obtain ⟨z,its,n,r,e⟩:=x;exact ⟨z,its,n,r,k _ _ (.inl rfl) e⟩
 | tup xs=>obtain ⟨z,its,r,ob,e,c⟩:=x;exact ⟨z,its,r,ob,k _ _ (.inl rfl) e,c⟩
 | dK kvs=>obtain ⟨z,y,vs,r,ob,es,ep,e,c⟩:=x;exact ⟨z,y,vs,r,ob,es,ep,k _ _ (.inl rfl) e,c⟩
 | dT kvs =>
  obtain ⟨z,y,xs,r,ob,es,ep,e,c⟩:=x
  exact ⟨z,y,xs,Paired.mapP r fun p q z=>⟨z.1,ht _ _ z.2.1,z.2.2⟩,ob,es,ep,k _ _ (.inl rfl) e,c⟩
 | set S n=>obtain ⟨ob,es,ep,t,e,c⟩:=x;exact ⟨ob,es,ep,t,k _ _ (.inl rfl) e,c⟩
 | ins C dx fs =>
  obtain ⟨d,z,ne,e,mA,⟨od,es,ep,e2,c⟩,r⟩:=x
  exact ⟨ho _ d,z,ne,k _ _ (.inl rfl) e,mA,⟨od,es,ep,k _ _ (.inr d) e2,c⟩,r⟩
 | own y=>obtain ⟨ob,e⟩:=x;exact ⟨ob,k _ _ (.inl rfl) e⟩
 | xd fs=>obtain ⟨mA,⟨od,es,ep,e,c⟩,r⟩:=x;exact ⟨mA,⟨od,es,ep,k _ _ (.inl rfl) e,c⟩,r⟩
 | rng lo hi=>obtain ⟨t,u,v,e⟩:=x;exact ⟨t,u,v,k _ _ (.inl rfl) e⟩
 | frz ob u ih=>obtain ⟨e,q⟩:=x;exact ⟨k _ _ (.inl rfl) e,ih q⟩
 | tbl ps =>
  have e:h.get? a=some { cls:=.none,data:=.fields ps }:=x
  show h'.get? a=some { cls:=.none,data:=.fields ps }
  exact k a _ (.inl rfl) e
 | met f y =>
  have e:h.get? a=some (EZ (.ref f) (.ref y)):=x
  show h'.get? a=some (EZ (.ref f) (.ref y))
  exact k a _ (.inl rfl) e
 | ext φ=>obtain ⟨p,⟨o,e⟩,st⟩:=x;exact ⟨st _ _ p fun o q=>k _ _ (.inl rfl) q,⟨o,k _ _ (.inl rfl) e⟩,st⟩
theorem cG.lt (x:cG P w H h) (e:H a=some o):a<h.objs.size:=(x a o e).lt
theorem cG.fresh (x:cG P w H h) (e:h.objs.size<=a):H a=none:=by
 cases q:H a with
 | none=>rfl
 | some u=>exact absurd (A3 (x.lt q) e) (aR _)
theorem cG.kept (x:cG P w H h) (k:∀b u,h.get? b=some u->h'.get? b=some u):cG P w H h':=fun a o e =>
 (x a o e).stay (fun b u _ q=>k b u q) (fun _ q=>q) fun _ _ q=>q
theorem cG.laid (x:cG P w H h) (k:∀b u,h.get? b=some u->h'.get? b=some u) (hp:h.objs.size<=a) (new:M9 P w (n8 H a o) h' a o):cG P w (n8 H a o) h':=fun b u e=>by
 have hn:=x.fresh hp
 by_cases hb:b=a
 ·subst hb;rw[f9] at e;cases e;exact new
 ·rw[A1 hb] at e
  exact (x b u e).stay (fun c v _ q=>k c v q) (fun c q=>by rw[A1 (v5 q hn)];exact q) fun c xs q=>by rw[A1 (v5 q hn)];exact q
end
noncomputable def Rd (H:Hp) (a:Addr) (u:HO):Prop:=H a=some u ∨ ∃o,H a=some (.frz o u)
variable {P:j7}{w:u9}{h:Heap}
theorem Rd.ok {u:HO} (r:Rd H a u) (x:cG P w H h):M9 P w H h a u:=by
 rcases r with r|⟨o,r⟩
 ·exact x a u r
 ·obtain ⟨_,q⟩:=x a _ r
  exact q
noncomputable def Lz:Option HO->Prop
 | some (.lst _)=>True
 | some (.dK _)=>True
 | some (.dT _)=>True
 | some (.set _ _)=>True
 | some (.ins _ _ _)=>True
 | some (.ext _)=>True
 | _=>False
section
variable {P:j7}{w:u9}{H:Hp}{h h':Heap}{x e:Addr}{o':HO}
theorem cG.write (ok:cG P w H h) (mu:Lz (H x)) (he:e=x ∨ H e=some (.own x)) (k:∀b u,b≠e->h.get? b=some u->h'.get? b=some u) (heo:∃u,h'.get? e=some u)
  (new:M9 P w (n8 H x o') h' x o'):cG P w (n8 H x o') h':=fun b u q=>by
 have nown:∀c y,H c=some (.own y)->c≠x:=fun c y r z=>by subst z;rw[r] at mu;exact mu
 have ntup:∀c xs,H c=some (.tup xs)->c≠x:=fun c xs r z=>by subst z;rw[r] at mu;exact mu
 by_cases hb:b=x
 ·subst hb;rw[f9] at q;cases q;exact new
 ·rw[A1 hb] at q
  by_cases hbe:b=e
  ·have q':H b=some (.own x):=by
    rcases he with z|z
    ·exact absurd (hbe.trans z) hb
    ·rw[hbe];exact z
   rw[q] at q';cases q'
   obtain ⟨v,hv⟩:=heo
   exact ⟨v,by rw[hbe];exact hv⟩
  ·refine (ok b u q).stay (fun c v hc r=>k c v ?_ r) (fun c r=>by rw[A1 (nown c b r)];exact r) fun c xs r=>by rw[A1 (ntup c xs r)];exact r
   rcases hc with rfl|hc
   ·exact hbe
   ·rintro rfl
    rcases he with z|z
    ·exact nown c b hc z
    ·rw[hc] at z;cases z;exact hb rfl
end
structure Un (fs ex:List Addr) (H H':Hp) (h h':Heap):Prop where
 keep:∀b o,h.get? b=some o->H b=none->b ∉ fs->b ∉ ex->h'.get? b=some o
 slot:∀b o,h.get? b=some o->H b=none->b∈fs->b ∉ ex->∃sl,h'.get? b=some { o with slots:=sl }
 free:∀b o,h.get? b=some o->H b=none->b ∉ ex->H' b=none
 there:∀b o,h.get? b=some o->b ∉ ex->∃o',h'.get? b=some o'
 tups:∀b xs,H b=some (.tup xs)->H' b=some (.tup xs)
 frzs:∀b o u,H b=some (.frz o u)->H' b=some (.frz o u)
 tbls:∀b ps,H b=some (.tbl ps)->∃more,H' b=some (.tbl (ps++more))
section
variable {fs fs' ex ex':List Addr}{H H1 H2:Hp}{h h1 h2 h':Heap}{a x e:Addr}{o:HO}
theorem Un.any (u:Un fs ex H H1 h h1) {b:Addr}{ob:Obj} (q:h.get? b=some ob) (n:H b=none) (hx:b ∉ ex):∃sl,h1.get? b=some { ob with slots:=sl }:=by
 by_cases hb:b∈fs
 ·exact u.slot b ob q n hb hx
 ·exact ⟨ob.slots,u.keep b ob q n hb hx⟩
theorem Un.kept (k:∀b u,h.get? b=some u->h'.get? b=some u):Un fs ex H H h h' :=
 ⟨fun b ob q _ _ _=>k b ob q,fun b ob q _ _ _=>⟨ob.slots,k b ob q⟩,fun _ _ _ n _=>n,fun b ob q _=>⟨ob,k b ob q⟩,fun _ _ q=>q,fun _ _ _ q=>q,fun _ ps q=>⟨#[],by rw[q];simp⟩⟩
theorem Un.refl:Un fs ex H H h h:=Un.kept fun _ _ q=>q
theorem Un.laid (k:∀b u,h.get? b=some u->h'.get? b=some u) (hp:h.objs.size<=a) (hn:H a=none):Un fs ex H (n8 H a o) h h' where
 keep:=fun b u q _ _ _=>k b u q
 slot:=fun b u q _ _ _=>⟨u.slots,k b u q⟩
 free:=fun b u q n _=>by rw[A1 (n0 (A3 (i5 q) hp))];exact n
 there:=fun b u q _=>⟨u,k b u q⟩
 tups:=fun b xs q=>by rw[A1 (v5 q hn)];exact q
 frzs:=fun b u xs q=>by rw[A1 (v5 q hn)];exact q
 tbls:=fun b ps q=>⟨#[],by rw[A1 (v5 q hn),q];simp⟩
theorem Un.write (mu:Lz (H x)) (he:e=x ∨ H e=some (.own x)) (k:∀b u,b≠e->h.get? b=some u->h'.get? b=some u) (heo:∃u,h'.get? e=some u):Un fs ex H (n8 H x o) h h':=by
 have hx:∀b,H b=none->b≠x:=fun b n z=>by subst z;rw[n] at mu;exact mu
 have hb:∀b,H b=none->b≠e:=fun b n z=>by
  subst z
  rcases he with r|r
  ·exact hx b n r
  ·rw[n] at r;cases r
 have hm:∀b u,H b=some u->¬ Lz (some u)->b≠x:=fun b u q nm z=>by subst z;rw[q] at mu;exact nm mu
 refine ⟨fun b u q n _ _=>k b u (hb b n) q,fun b u q n _ _=>⟨u.slots,k b u (hb b n) q⟩,fun b u q n _=>by rw[A1 (hx b n)];exact n,fun b u q _=>?_,
  fun b xs q=>by rw[A1 (hm b _ q fun z=>z)];exact q,fun b u xs q=>by rw[A1 (hm b _ q fun z=>z)];exact q,fun b ps q=>⟨#[],by rw[A1 (hm b _ q fun z=>z),q];simp⟩⟩
 by_cases hbe:b=e
 ·subst hbe;exact heo
 ·exact ⟨u,k b u hbe q⟩
end
noncomputable def LZ (h:Heap) (H:Hp):List Addr:=(J9 h.objs.size).filter fun a=>(H a).isSome
noncomputable def rQ (h:Heap) (H:Hp):Heap:=W.hideAll h (LZ h H)
theorem AZ (h:Heap) (H:Hp):(rQ h H).objs.size=h.objs.size:=W.hideAll_size _ _
theorem DX {o:Obj} (e:h.get? b=some o) (n:H b=none):(rQ h H).get? b=some o :=
 W.hideAll_get _ e fun hm=>by
  have q:(H b).isSome=true:=(List.mem_filter.mp hm).2
  rw[n] at q;simp at q
theorem FP {o:Obj} (e:(rQ h H).get? b=some o):h.get? b=some o/\H b=none:=by
 have e':h.get? b=some o:=W.of_hideAll (LZ h H) e
 refine ⟨e',?_⟩
 cases q:H b with
 | none=>rfl
 | some x =>
  have hm:b∈LZ h H:=List.mem_filter.mpr ⟨List.mem_range.mpr (i5 e'),by simp[q]⟩
  have z:(rQ h H).get? b=none:=W.hideAll_none (LZ h H) hm
  rw[z] at e;cases e
noncomputable def Gk (g h:Heap) (L:Addr):List (Addr × Obj):=(J9 h.objs.size).filterMap fun a=>if a=L ∨ (g.get? a).isSome=true then none else (h.get? a).map fun o=>(a,o)
noncomputable def jK (g h:Heap) (L d:Addr):List (Addr × Obj):=(Gk g h L).filter fun p=>decide (p.1≠d)
structure Mod (K:m6) (mg:Str->Option b9) (base:Heap):Prop where
 kin:K.In base
 glob:base.Ns t8 mg
 blt:∃mb,base.Ns kR mb/\∀x:Str,x≠"__name__"->mb x=X1 x
 nolimit:base.NoLimit
structure Cx where
 prog:j7
 w:u9
 K:m6
 mg:Str->Option b9
 base:Heap
 A:A8
 N:List Str
 s₀:d9
 H₀:Hp
 env:Env
 outer:List Env
 stack:List Env
 ex:List Addr
 fn:Str->Bool
 calm:Bool
 pn:List (Addr × Obj)
 xe:b9->d9->Prop
noncomputable def lG (l:List Env):List Addr:=l.filterMap (·.frame)
noncomputable abbrev Cx.fs (X:Cx):List Addr:=lG X.outer
noncomputable def Lv (sc:T5) (x:Str):Prop:=sc.names.lookup x=some .local ∨ sc.names.lookup x=some .cell ∨ sc.names.lookup x=some .free
noncomputable def LA (sc:T5) (x:Str):Prop:=sc.names.lookup x=some .local ∨ sc.names.lookup x=some .cell
noncomputable def Look (env:Env) (h:Heap) (m:Str->Option b9) (x:Str) (u:b9):Prop :=
 (env.kindOf x=some .local/\m x=some u) ∨ ((env.kindOf x=some .cell ∨ env.kindOf x=some .free)/\∃c,env.cells.lookup x=some c/\h.IsCell c (some u))
structure Cx.Ok (X:Cx):Prop where
 mod:Mod X.K X.mg X.base
 kind:X.env.scope.kind=.function
 glob:X.env.globals=t8
 blt:X.env.builtins=kR
 above:X.s₀.heap.objs.size<=X.env.locals
 inj:∀x y c,X.env.cells.lookup x=some c->X.env.cells.lookup y=some c->x=y
 has:∀x,(X.env.kindOf x=some .cell ∨ X.env.kindOf x=some .free)->∃c,X.env.cells.lookup x=some c
 cab:∀x c,X.fn x=true->X.env.cells.lookup x=some c->X.s₀.heap.objs.size<=c
 hd:X.calm=true->X.A.handled=none
 frames:X.A.frames=some X.stack
 stk:X.stack=X.outer ∨ (X.stack=X.env::X.outer/\X.env.frame=some X.env.locals)
 exf:∀b∈X.ex,b≠X.env.locals/\∀x c,X.env.cells.lookup x=some c->c≠b
 bs:∀b o,X.base.get? b=some o->X.s₀.heap.get? b=some o/\X.H₀ b=none
 bsz:X.base.objs.size<=X.s₀.heap.objs.size
 noex:∀b o,X.base.get? b=some o->b ∉ X.ex
 exfs:∀b∈X.ex,b ∉ X.fs
 funs:X.s₀.heap.FunFrames X.base X.outer
 frf:∀b∈X.fs,X.H₀ b=none
structure C8 (X:Cx) (pins:List (Addr × Obj)) (σ:List (Option V)) (H:Hp) (s:d9):Prop where
 ok:X.Ok
 os:s.os=X.s₀.os
 bare:ju s.gens
 base:Un X.fs X.ex X.H₀ H X.s₀.heap s.heap
 loc:∃m,s.heap.Ns X.env.locals m/\∀(i:Nat) (x:Str) (v:V),X.N[i]?=some x->σ[i]?=some (some v)->Lv X.env.scope x->∃u,K2 v u/\Look X.env s.heap m x u
 cell:∀x c,X.env.cells.lookup x=some c->∃v,s.heap.IsCell c v
 free:H X.env.locals=none
 freeC:∀x c,X.env.cells.lookup x=some c->H c=none
 pin:∀p∈X.pn++pins,s.heap.get? p.1=some p.2/\H p.1=none/\p.1≠X.env.locals/\p.1 ∉ X.fs/\∀v,p.2.data≠.cell v
 hok:cG X.prog X.w H s.heap
 len:σ.length=X.N.length
section
variable {X:Cx}{pins:List (Addr × Obj)}{σ:List (Option V)}{H H':Hp}{s:d9}{h':Heap}
theorem Cx.Ok.nofr (ok:X.Ok) {b:Addr}{o:Obj} (e:X.base.get? b=some o):b ∉ X.fs:=fun hb=>by
 have:=(ok.funs.mem hb).1
 rw[e] at this;cases this
theorem C8.bs (I:C8 X pins σ H s):∀b o,X.base.get? b=some o->s.heap.get? b=some o/\H b=none:=fun b o e =>
 ⟨I.base.keep b o (I.ok.bs b o e).1 (I.ok.bs b o e).2 (I.ok.nofr e) (I.ok.noex b o e),I.base.free b o (I.ok.bs b o e).1 (I.ok.bs b o e).2 (I.ok.noex b o e)⟩
theorem C8.bk (I:C8 X pins σ H s):∀b o,X.base.get? b=some o->s.heap.get? b=some o:=fun b o e=>(I.bs b o e).1
theorem C8.mod (I:C8 X pins σ H s):Mod X.K X.mg X.base:=I.ok.mod
theorem C8.kIn (I:C8 X pins σ H s):X.K.In s.heap:=I.ok.mod.kin.keeps I.bk
theorem C8.nolimit (I:C8 X pins σ H s):s.heap.NoLimit:=I.ok.mod.nolimit.keeps I.bk
theorem C8.lt (I:C8 X pins σ H s):X.env.locals<s.heap.objs.size:=let ⟨_,hn,_⟩:=I.loc;hn.lt
theorem C8.sz (I:C8 X pins σ H s):X.s₀.heap.objs.size<=s.heap.objs.size:=j0 I.ok.above (aC I.lt)
theorem C8.nofs (I:C8 X pins σ H s) {a:Addr} (h:s.heap.objs.size<=a):a ∉ X.fs:=fun hb=>by
 obtain ⟨_,o,ho,_⟩:=I.ok.funs.mem hb
 exact absurd (A3 (i5 ho) (j0 I.sz h)) (aR _)
theorem C8.cne (I:C8 X pins σ H s):∀x c,X.env.cells.lookup x=some c->c≠X.env.locals:=fun x c e z=>by
 obtain ⟨v,o,ho,hd⟩:=I.cell x c e
 obtain ⟨m,⟨o',es,ep,ho',hd',_⟩,_⟩:=I.loc
 rw[z,ho'] at ho;cases ho;rw[hd'] at hd;cases hd
theorem C8.funs (I:C8 X pins σ H s):s.heap.FunFrames X.base X.outer:=by
 have all:∀(l:List Env),(∀b∈lG l,b∈X.fs)->X.s₀.heap.FunFrames X.base l->s.heap.FunFrames X.base l:=by
  intro l
  induction l with
  | nil=>intro _ _;trivial
  | cons env r ih =>
   intro hs hl
   obtain ⟨hk,⟨L,o,hf,hn,ho,hd⟩,hr⟩:=hl
   have hL:L∈X.fs:=hs L (by unfold lG;rw[fH,hf];exact i4)
   obtain ⟨sl,e⟩:=I.base.slot L o ho (I.ok.frf L hL) hL fun z=>I.ok.exfs L z hL
   exact ⟨hk,⟨L,_,hf,hn,e,hd⟩,ih (fun b hb=>hs b (by unfold lG;rw[fH,hf];exact i3 _ hb)) hr⟩
 exact all X.outer (fun _ hb=>hb) I.ok.funs
theorem C8.stack (I:C8 X pins σ H s):s.heap.FunFrames X.base X.stack:=by
 rcases I.ok.stk with e|⟨e,hf⟩
 ·rw[e];exact I.funs
 ·rw[e]
  obtain ⟨m,hn,_⟩:=I.loc
  refine .cons (by rw[I.ok.kind];decide) hf hn ?_ I.funs
  exact kM (j0 I.ok.bsz I.ok.above)
theorem C8.stkSub (I:C8 X pins σ H s):∀b∈lG X.stack,b∈X.env.locals::X.fs:=fun b hb=>by
 rcases I.ok.stk with e|⟨e,hf⟩
 ·rw[e] at hb;exact i3 _ hb
 ·rw[e] at hb
  unfold lG at hb
  rw[fH,hf] at hb
  exact hb
theorem C8.stkFree (I:C8 X pins σ H s):∀b∈lG X.stack,H b=none:=fun b hb=>by
 rcases List.mem_cons.mp (I.stkSub b hb) with e|hb
 ·rw[e];exact I.free
 ·obtain ⟨_,o,ho,_⟩:=I.ok.funs.mem hb
  exact I.base.free b o ho (I.ok.frf b hb) fun z=>I.ok.exfs b z hb
variable {t':Nat}{ch:List Addr}
theorem C8.step {g':Array GenState}{d':Drawn}(I:C8 X pins σ H s)
  (hch:∀b∈ch,(b∈X.ex ∨ X.s₀.heap.objs.size<=b)/\b≠X.env.locals/\(∀x c,X.env.cells.lookup x=some c->c≠b)/\∀p∈X.pn++pins,p.1≠b)
  (keep:∀b o,b≠X.env.locals->b ∉ X.fs->b ∉ ch->s.heap.get? b=some o->H b=none->h'.get? b=some o)
  (slot:∀b o,b≠X.env.locals->b∈X.fs->b ∉ ch->s.heap.get? b=some o->H b=none->∃sl,h'.get? b=some { o with slots:=sl }) (free:∀b o,b ∉ ch->s.heap.get? b=some o->H b=none->H' b=none)
  (there:∀b o,b ∉ ch->s.heap.get? b=some o->∃o',h'.get? b=some o')
  (tups:∀b xs,H b=some (.tup xs)->H' b=some (.tup xs)) (frzs:∀b o u,H b=some (.frz o u)->H' b=some (.frz o u)) (tbls:∀b ps,H b=some (.tbl ps)->∃more,H' b=some (.tbl (ps++more)))
  (ns:∀m,s.heap.Ns X.env.locals m->h'.Ns X.env.locals m) (hok:cG X.prog X.w H' h') (hg:ju g'):
  C8 X pins σ H' { s with heap:=h',gens:=g',drawn:=d',toks:=t' }:=by
 have neL:∀b o,X.s₀.heap.get? b=some o->b≠X.env.locals:=fun b o e=>n0 (A3 (i5 e) I.ok.above)
 have neC:∀b o,X.s₀.heap.get? b=some o->b ∉ X.ex->b ∉ ch:=fun b o e hx hb=>by
  rcases (hch b hb).1 with z|z
  ·exact hx z
  ·exact absurd (A3 (i5 e) z) (aR _)
 have cellK:∀x c,X.env.cells.lookup x=some c->∀v,s.heap.IsCell c v->h'.IsCell c v:=fun x c e v ⟨o,ho,hd⟩=>by
  have nch:c ∉ ch:=fun z=>(hch c z).2.2.1 x c e rfl
  by_cases hc:c∈X.fs
  ·obtain ⟨sl,q⟩:=slot c o (I.cne x c e) hc nch ho (I.freeC x c e)
   exact ⟨_,q,hd⟩
  ·exact ⟨o,keep c o (I.cne x c e) hc nch ho (I.freeC x c e),hd⟩
 refine ⟨I.ok,I.os,hg,⟨fun b o e n hb hx=>?_,fun b o e n hb hx=>?_,fun b o e n hx=>?_,fun b o e hx=>?_,fun b xs e=>tups b xs (I.base.tups b xs e),fun b o xs e=>frzs b o xs (I.base.frzs b o xs e),fun b ps e=>?_⟩,?_,fun x c e=>?_,?_,fun x c e=>?_,fun p hp=>?_,hok,I.len⟩
 ·exact keep b o (neL b o e) hb (neC b o e hx) (I.base.keep b o e n hb hx) (I.base.free b o e n hx)
 ·obtain ⟨sl,e1⟩:=I.base.slot b o e n hb hx
  obtain ⟨sl',e2⟩:=slot b _ (neL b o e) hb (neC b o e hx) e1 (I.base.free b o e n hx)
  exact ⟨sl',e2⟩
 ·obtain ⟨o',e1⟩:=I.base.there b o e hx
  exact free b o' (neC b o e hx) e1 (I.base.free b o e n hx)
 ·obtain ⟨o',e1⟩:=I.base.there b o e hx
  exact there b o' (neC b o e hx) e1
 ·obtain ⟨m1,e1⟩:=I.base.tbls b ps e
  obtain ⟨m2,e2⟩:=tbls b _ e1
  exact ⟨m1++m2,by rw[e2,Array.append_assoc]⟩
 ·obtain ⟨m,hn,hl⟩:=I.loc
  refine ⟨m,ns m hn,fun i x v e1 e2 e3=>?_⟩
  obtain ⟨u,r,l⟩:=hl i x v e1 e2 e3
  refine ⟨u,r,?_⟩
  rcases l with l|⟨k,c,e,z⟩
  ·exact .inl l
  ·exact .inr ⟨k,c,e,cellK x c e _ z⟩
 ·obtain ⟨v,z⟩:=I.cell x c e
  exact ⟨v,cellK x c e v z⟩
 ·obtain ⟨m,⟨o,_,_,ho,_⟩,_⟩:=I.loc
  exact free _ o (fun z=>(hch _ z).2.1 rfl) ho I.free
 ·obtain ⟨v,o,ho,hd⟩:=I.cell x c e
  exact free c o (fun z=>(hch c z).2.2.1 x c e rfl) ho (I.freeC x c e)
 ·obtain ⟨e,n,ne,nf,d⟩:=I.pin p hp
  have nch:p.1 ∉ ch:=fun z=>(hch p.1 z).2.2.2 p hp rfl
  exact ⟨keep p.1 p.2 ne nf nch e n,free p.1 p.2 nch e n,ne,nf,d⟩
theorem C8.un (I:C8 X pins σ H s) (u:Un X.fs [] H H' s.heap h') (hok:cG X.prog X.w H' h'):C8 X pins σ H' { s with heap:=h',toks:=t' }:=by
 obtain ⟨m,⟨o,es,ep,ho,r⟩,_⟩:=id I.loc
 obtain ⟨sl,hL⟩:=u.any ho I.free (by simp)
 exact I.step (g':=s.gens) (d':=s.drawn) (ch:=[]) (fun _ z=>nomatch z) (fun b o _ hb _ e n=>u.keep b o e n hb (by simp)) (fun b o _ hb _ e n=>u.slot b o e n hb (by simp)) (fun b o _ e n=>u.free b o e n (by simp)) (fun b o _ e=>u.there b o e (by simp)) u.tups u.frzs u.tbls (fun m' hm=>by
  obtain ⟨o',es',ep',ho',r'⟩:=hm
  rw[ho] at ho';cases ho'
  exact ⟨_,es',ep',hL,r'⟩) hok I.bare
theorem C8.call {g':Array GenState}{d':Drawn}(I:C8 X pins σ H s) (u:Un (lG X.stack) ch H H' s.heap h') (hok:cG X.prog X.w H' h') (hg:ju g')
  (hch:∀b∈ch,(b∈X.ex ∨ X.s₀.heap.objs.size<=b)/\b≠X.env.locals/\(∀x c,X.env.cells.lookup x=some c->c≠b)/\∀p∈X.pn++pins,p.1≠b):
  C8 X pins σ H' { s with heap:=h',gens:=g',drawn:=d',toks:=t' }:=by
 obtain ⟨m,⟨o,es,ep,ho,r⟩,_⟩:=id I.loc
 obtain ⟨sl,hL⟩:=u.any ho I.free fun z=>(hch _ z).2.1 rfl
 exact I.step (ch:=ch) hch (fun b o hL hb hc e n=>u.keep b o e n (fun z=>(List.mem_cons.mp (I.stkSub b z)).elim hL hb) hc) (fun b o _ _ hc e n=>u.any e n hc) (fun b o hc e n=>u.free b o e n hc) (fun b o hc e=>u.there b o e hc) u.tups u.frzs u.tbls (fun m' hm=>by
  obtain ⟨o',es',ep',ho',r'⟩:=hm
  rw[ho] at ho';cases ho'
  exact ⟨_,es',ep',hL,r'⟩) hok hg
theorem C8.turned {it:Addr} (I:C8 X pins σ H s) (k:∀b o,b≠it->s.heap.get? b=some o->h'.get? b=some o) (hn:H it=none) (hL:it≠X.env.locals)
  (h1:it∈X.ex ∨ X.s₀.heap.objs.size<=it) (h2:∀x c,X.env.cells.lookup x=some c->c≠it) (h3:∀p∈X.pn++pins,p.1≠it):C8 X pins σ H { s with heap:=h',toks:=t' }:=by
 have nit:∀b u,H b=some u->b≠it:=fun b u e z=>by rw[z,hn] at e;cases e
 refine I.step (g':=s.gens) (d':=s.drawn) (ch:=[it]) (fun b hb=>?_) (fun b o _ _ hc e _=>k b o (fun z=>hc (by simp[z])) e) (fun b o _ _ hc e _=>⟨o.slots,k b o (fun z=>hc (by simp[z])) e⟩) (fun _ _ _ _ n=>n)
  (fun b o hc e=>⟨o,k b o (fun z=>hc (by simp[z])) e⟩) (fun _ _ e=>e) (fun _ _ _ e=>e) (fun b ps e=>⟨#[],by rw[e];simp⟩) (fun m hm=>?_) (fun b u e=>?_) I.bare
 ·have e:b=it:=by simpa using hb
  subst e
  exact ⟨h1,hL,h2,h3⟩
 ·obtain ⟨o,es,ep,ho,r⟩:=hm
  exact ⟨o,es,ep,k _ o (F6 hL) ho,r⟩
 ·refine (I.hok b u e).stay (fun c v hc q=>k c v ?_ q) (fun _ q=>q) fun _ _ q=>q
  rcases hc with z|z
  ·rw[z];exact nit b u e
  ·exact nit c _ z
theorem C8.tok (I:C8 X pins σ H s) (t:Nat):C8 X pins σ H { s with toks:=t }:=I.un (h':=s.heap) (t':=t) Un.refl I.hok
theorem C8.kept {t':Nat} (I:C8 X pins σ H s) (k:∀b u,s.heap.get? b=some u->h'.get? b=some u):C8 X pins σ H { s with heap:=h',toks:=t' }:=I.un (Un.kept k) (I.hok.kept k)
theorem C8.laid {a:Addr}{o:HO}{t':Nat} (I:C8 X pins σ H s) (k:∀b u,s.heap.get? b=some u->h'.get? b=some u) (hp:s.heap.objs.size<=a) (new:M9 X.prog X.w (n8 H a o) h' a o):
  C8 X pins σ (n8 H a o) { s with heap:=h',toks:=t' }:=I.un (Un.laid k hp (I.hok.fresh hp)) (I.hok.laid k hp new)
theorem C8.write {x e:Addr}{o:HO}{t':Nat} (I:C8 X pins σ H s) (mu:Lz (H x)) (he:e=x ∨ H e=some (.own x)) (k:∀b u,b≠e->s.heap.get? b=some u->h'.get? b=some u) (heo:∃u,h'.get? e=some u)
  (new:M9 X.prog X.w (n8 H x o) h' x o):C8 X pins σ (n8 H x o) { s with heap:=h',toks:=t' }:=I.un (Un.write mu he k heo) (I.hok.write mu he k heo new)
theorem C8.weak {σ':List (Option V)} (I:C8 X pins σ H s) (hl:σ'.length=σ.length) (w:∀(i:Nat) v,σ'[i]?=some (some v)->σ[i]?=some (some v)):C8 X pins σ' H s :=
 ⟨I.ok,I.os,I.bare,I.base,let ⟨m,hn,hl'⟩:=I.loc;⟨m,hn,fun i x v e1 e2 e3=>hl' i x v e1 (w i v e2) e3⟩,I.cell,I.free,I.freeC,I.pin,I.hok,hl.trans I.len⟩
theorem C8.pins_of {pins':List (Addr × Obj)} (I:C8 X pins σ H s) (h:∀p∈pins',s.heap.get? p.1=some p.2/\H p.1=none/\p.1≠X.env.locals/\p.1 ∉ X.fs/\∀v,p.2.data≠.cell v):C8 X pins' σ H s :=
 ⟨I.ok,I.os,I.bare,I.base,I.loc,I.cell,I.free,I.freeC,fun p hp=>(List.mem_append.mp hp).elim (fun z=>I.pin p (G7 _ z)) (h p),I.hok,I.len⟩
variable {i:Nat}{x:Str}
theorem qu {N:List Str} (hN:N.Nodup) {j:Nat}(a:N[i]?=some x) (b:N[j]?=some x):i=j:=by
 obtain ⟨h1,e1⟩:=List.getElem?_eq_some_iff.mp a
 obtain ⟨h2,e2⟩:=List.getElem?_eq_some_iff.mp b
 exact (iQ hN).mp (e1.trans e2.symm)
theorem sj {M:lQ}{A:A8}{E:b9->d9->Prop}{v:V}{u:b9}{Q:Unit->d9->Prop} (I:C8 X pins σ H s) (hN:X.N.Nodup) (hi:X.N[i]?=some x) (hx:LA X.env.scope x) (r:K2 v u)
  (h:∀s',C8 X pins (σ.set i (some v)) H s'->(∃a,G2 a s.heap s'.heap/\(a=X.env.locals ∨ X.env.cells.lookup x=some a))->Q () s') (hf:X.fn x=true ∨ X.env.scope.names.lookup x=some .local:=by first|exact .inl rfl|exact .inr rfl|assumption):j6 M A (storeName X.env x u) Q E s:=by
 obtain ⟨m,hn,hl⟩:=id I.loc
 have hcls:(X.env.scope.kind == .class || (X.env.scope.kind == .module&&X.env.locals != X.env.globals))=false:=by rw[I.ok.kind];rfl
 have hiσ:i<σ.length:=by rw[I.len];exact (List.getElem?_eq_some_iff.mp hi).1
 have cne:=I.cne
 have tracked:∀{a:Addr}{h':Heap},(∃o,s.heap.get? a=some o/\H a=none)->G2 a s.heap h'->cG X.prog X.w H h':=fun {a h'} ha hs b ob e=>by
  obtain ⟨_,_,hfree⟩:=ha
  refine (I.hok b ob e).stay (fun c w' hc q=>(hs.2 c ?_).trans q) (fun _ q=>q) fun _ _ q=>q
  rintro rfl
  rcases hc with rfl|hc
  ·rw[hfree] at e;cases e
  ·rw[hfree] at hc;cases hc
 rcases hx with hk|hk
 ·refine wpAny_storeName_local hk hn (fun h' hn' hs=>?_) hcls
  obtain ⟨oL,_,_,hoL,_⟩:=id hn
  refine h _ ⟨I.ok,I.os,I.bare,⟨fun b o e n hb hx=>?_,fun b o e n hb hx=>?_,I.base.free,fun b o e hx=>?_,I.base.tups,I.base.frzs,I.base.tbls⟩,⟨_,hn',fun j y v' e1 e2 e3=>?_⟩,fun y c e=>?_,I.free,I.freeC,fun p hp=>?_,tracked ⟨oL,hoL,I.free⟩ hs,by simpa using I.len⟩ ⟨_,hs,.inl rfl⟩
  ·exact (hs.2 b (n0 (A3 (i5 e) I.ok.above))).trans (I.base.keep b o e n hb hx)
  ·obtain ⟨sl,e1⟩:=I.base.slot b o e n hb hx
   exact ⟨sl,(hs.2 b (n0 (A3 (i5 e) I.ok.above))).trans e1⟩
  ·obtain ⟨o',e1⟩:=I.base.there b o e hx
   exact ⟨o',(hs.2 b (n0 (A3 (i5 e) I.ok.above))).trans e1⟩
  ·by_cases hj:j=i
   ·subst hj
    rw[hi] at e1;cases e1
    rw[av hiσ] at e2
    cases e2
    exact ⟨u,r,.inl ⟨hk,by simp⟩⟩
   ·rw[N8 (F6 hj)] at e2
    obtain ⟨u',r',q⟩:=hl j y v' e1 e2 e3
    refine ⟨u',r',?_⟩
    rcases q with ⟨k,e⟩|⟨k,c,e,z⟩
    ·refine .inl ⟨k,?_⟩
     have:y≠x:=fun e=>hj (qu hN e1 (e ▸ hi))
     simp[this,e]
    ·exact .inr ⟨k,c,e,z.sameBut hs (cne y c e)⟩
  ·obtain ⟨w',z⟩:=I.cell y c e
   exact ⟨w',z.sameBut hs (cne y c e)⟩
  ·obtain ⟨e,n,ne,nf,d⟩:=I.pin p hp
   exact ⟨(hs.2 p.1 ne).trans e,n,ne,nf,d⟩
 ·have hfn:X.fn x=true:=by
   rcases hf with z|z
   ·exact z
   ·rw[z] at hk;cases hk
  obtain ⟨c,hc⟩:=I.ok.has x (.inl hk)
  obtain ⟨w',z⟩:=I.cell x c hc
  refine wpAny_storeName_cell I.ok.kind hk hc z (fun h' hc' hs=>?_)
  obtain ⟨oc,hoc,hocd⟩:=id z
  refine h { s with heap:=h' } ⟨I.ok,I.os,I.bare,⟨fun b o e n hb hx=>?_,fun b o e n hb hx=>?_,I.base.free,fun b o e hx=>?_,I.base.tups,I.base.frzs,I.base.tbls⟩,⟨m,hn.sameBut hs (F6 (cne x c hc)),fun j y v' e1 e2 e3=>?_⟩,fun y c' e=>?_,I.free,I.freeC,fun p hp=>?_,tracked ⟨oc,hoc,I.freeC x c hc⟩ hs,by simpa using I.len⟩ ⟨c,hs,.inr hc⟩
  ·exact (hs.2 b (n0 (A3 (i5 e) (I.ok.cab x c hfn hc)))).trans (I.base.keep b o e n hb hx)
  ·obtain ⟨sl,e1⟩:=I.base.slot b o e n hb hx
   exact ⟨sl,(hs.2 b (n0 (A3 (i5 e) (I.ok.cab x c hfn hc)))).trans e1⟩
  ·obtain ⟨o',e1⟩:=I.base.there b o e hx
   exact ⟨o',(hs.2 b (n0 (A3 (i5 e) (I.ok.cab x c hfn hc)))).trans e1⟩
  ·by_cases hj:j=i
   ·subst hj
    rw[hi] at e1;cases e1
    rw[av hiσ] at e2
    cases e2
    exact ⟨u,r,.inr ⟨.inl hk,c,hc,hc'⟩⟩
   ·rw[N8 (F6 hj)] at e2
    obtain ⟨u',r',q⟩:=hl j y v' e1 e2 e3
    refine ⟨u',r',?_⟩
    rcases q with q|⟨k,c',e,z'⟩
    ·exact .inl q
    ·refine .inr ⟨k,c',e,z'.sameBut hs ?_⟩
     rintro rfl
     exact hj (qu hN e1 (I.ok.inj _ _ _ e hc ▸ hi))
  ·by_cases hcc:c'=c
   ·subst hcc;exact ⟨_,hc'⟩
   ·obtain ⟨w2,z2⟩:=I.cell y c' e
    exact ⟨w2,z2.sameBut hs hcc⟩
  ·obtain ⟨e,n,ne,nf,d⟩:=I.pin p hp
   refine ⟨(hs.2 p.1 ?_).trans e,n,ne,nf,d⟩
   intro q
   rw[q,hoc] at e
   have q':oc=p.2:=C1 e
   exact d w' (by rw[<- q'];exact hocd)
theorem cq {M:lQ}{A:A8}{E:b9->d9->Prop}{v:V}{u:b9}{Q:Unit->d9->Prop} (I:C8 X pins σ H s) (hN:X.N.Nodup) (hi:X.N[i]?=some x) (hx:LA X.env.scope x) (r:K2 v u)
  (h:∀s',C8 X pins (σ.set i (some v)) H s'->Q () s') (hf:X.fn x=true ∨ X.env.scope.names.lookup x=some .local:=by first|exact .inl rfl|exact .inr rfl|assumption):j6 M A (storeName X.env x u) Q E s :=
 sj I hN hi hx r (fun s' I' _=>h s' I') hf
theorem C8.call' {s':d9}(I:C8 X pins σ H s) (ho:s'.os=s.os) (u:Un (lG X.stack) ch H H' s.heap s'.heap) (hok:cG X.prog X.w H' s'.heap) (hg:ju s'.gens)
  (hch:∀b∈ch,(b∈X.ex ∨ X.s₀.heap.objs.size<=b)/\b≠X.env.locals/\(∀x c,X.env.cells.lookup x=some c->c≠b)/\∀p∈X.pn++pins,p.1≠b):C8 X pins σ H' s':=by
 obtain ⟨h',g',d',t',o'⟩:=s'
 have e:o'=s.os:=ho
 subst e
 exact I.call (g':=g') (t':=t') (d':=d') u hok hg hch
end
noncomputable abbrev XK:=b9->Option Addr->Hp->Prop
noncomputable abbrev St:=List (Option V)
noncomputable abbrev VK:=V->Hp->Prop
noncomputable abbrev TE:=St->Hp->VK->Prop
noncomputable abbrev TT:=St->Hp->(Bool->Hp->Prop)->Prop
noncomputable abbrev TA:=St->Hp->(List V->Hp->Prop)->Prop
structure qT where
 nx:St->Hp->Prop
 rt:VK
 bk:St->Hp->Prop:=fun _ _=>False
 ct:St->Hp->Prop:=fun _ _=>False
noncomputable abbrev TS:=qT->St->Hp->Prop
noncomputable def EP (X:Cx) (pins:List (Addr × Obj)) (σ:St) (Q:VK) (u:b9) (s':d9):Prop:=∃v H',C8 X pins σ H' s'/\K2 v u/\Q v H'
noncomputable def TP (X:Cx) (pins:List (Addr × Obj)) (σ:St) (Q:Bool->Hp->Prop) (b:Bool) (s':d9):Prop:=∃H',C8 X pins σ H' s'/\Q b H'
noncomputable def AP (X:Cx) (pins:List (Addr × Obj)) (σ:St) (Q:List V->Hp->Prop) (us:List b9) (s':d9):Prop:=∃vs H',C8 X pins σ H' s'/\K4 vs us/\Q vs H'
noncomputable def SP (X:Cx) (pins:List (Addr × Obj)) (D:qT) (f:Flow) (s':d9):Prop :=
 match f with
 | .next=>∃σ' H',C8 X pins σ' H' s'/\D.nx σ' H'
 | .brk=>∃σ' H',C8 X pins σ' H' s'/\D.bk σ' H'
 | .cont=>∃σ' H',C8 X pins σ' H' s'/\D.ct σ' H'
 | .ret u=>∃v σ' H',C8 X pins σ' H' s'/\K2 v u/\D.rt v H'
noncomputable def PE (X:Cx) (e:Expr) (t:TE):Prop :=
 ∀(pins:List (Addr × Obj)) (s:d9) (σ:St) (H:Hp) (Q:VK),C8 X pins σ H s->t σ H Q->j6 (r6 X.prog X.w) X.A (eval e X.env) (EP X pins σ Q) X.xe s
noncomputable def PT (X:Cx) (e:Expr) (t:TT):Prop :=
 ∀(pins:List (Addr × Obj)) (s:d9) (σ:St) (H:Hp) (Q:Bool->Hp->Prop),C8 X pins σ H s->t σ H Q->j6 (r6 X.prog X.w) X.A (JU e X.env (eval e X.env)) (TP X pins σ Q) X.xe s
noncomputable def PW (X:Cx) (e:Expr) (t:TT):Prop :=
 ∀(whole:Sem b9) (pins:List (Addr × Obj)) (s:d9) (σ:St) (H:Hp) (Q:Bool->Hp->Prop),C8 X pins σ H s->t σ H Q->j6 (r6 X.prog X.w) X.A (JU e X.env whole) (TP X pins σ Q) X.xe s
variable {X:Cx}
theorem PW.pt {e:Expr}{t:TT} (h:PW X e t):PT X e t:=h _
noncomputable def PA (X:Cx) (es:List Expr) (t:TA):Prop :=
 ∀(pos:Pos) (pins:List (Addr × Obj)) (s:d9) (σ:St) (H:Hp) (Q:List V->Hp->Prop),C8 X pins σ H s->t σ H Q->j6 (r6 X.prog X.w) X.A (spliced (aW pos (A4 es X.env))) (AP X pins σ Q) X.xe s
noncomputable def PS (X:Cx) (st:Stmt) (t:TS):Prop :=
 ∀(pins:List (Addr × Obj)) (s:d9) (σ:St) (H:Hp) (D:qT),C8 X pins σ H s->t D σ H->j6 (r6 X.prog X.w) X.A (exec st X.env) (SP X pins D) X.xe s
noncomputable def rV (X:Cx) (st:List Stmt) (t:TS):Prop :=
 ∀(pins:List (Addr × Obj)) (s:d9) (σ:St) (H:Hp) (D:qT),C8 X pins σ H s->t D σ H->j6 (r6 X.prog X.w) X.A (execs st X.env) (SP X pins D) X.xe s
variable {A:A8}{E:b9->d9->Prop}{s:d9}
theorem W8 {α:Type}{t:Sem α}{Q Q':α->d9->Prop}{M:lQ}(h:j6 M A t Q E s) (hQ:∀a s,Q a s->Q' a s):j6 M A t Q' E s:=F5 h hQ fun _ _ x=>x
section
variable {X:Cx}
noncomputable def U2 (i:Nat):TE:=fun σ H Q=>∃v,σ[i]?=some (some v)/\Q v H
noncomputable def tC (v:V):TE:=fun _ H Q=>Q v H
variable {x:Str}
theorem ya {i:Nat}{pos:Pos} (hN:X.N[i]?=some x) (hv:Lv X.env.scope x) (hd:(x == ("__debug__":Str))=false:=by decide) (hcd:(x == ("__classdict__":Str))=false:=by decide):PE X (.Name x pos) (U2 i):=by
 intro pins s σ H Q I h
 obtain ⟨v,e,h⟩:=h
 obtain ⟨m,hn,hl⟩:=I.loc
 obtain ⟨u,r,l⟩:=hl i x v hN e hv
 have fin:EP X pins σ Q u s:=⟨v,H,I,r,h⟩
 rcases l with ⟨hk,hm⟩|⟨hk,c,hc,hcell⟩
 ·exact JS (wpAny_loadName_local I.ok.kind hk hn hm fin) hd
 ·rcases hk with hk|hk
  ·exact JS (wpAny_loadName_cell I.ok.kind hk hc hcell fin) hd
  ·exact JS (wpAny_loadName_free I.ok.kind hk hc hcell fin hcd) hd
theorem i9 {i j pos}:PE X (.Constant (.int i) j pos) (tC (.int i)):=fun _ _ _ H _ I h=>rA ⟨.int i,H,I.tok _,⟨_,rfl⟩,h⟩
theorem bR {b j pos}:PE X (.Constant (.bool b) j pos) (tC (.bl b)):=fun _ _ _ H _ I h=>Constant_bool ⟨.bl b,H,I,rfl,h⟩
theorem kB {j pos}:PE X (.Constant .none j pos) (tC .non):=fun _ _ _ H _ I h=>Constant_none ⟨.non,H,I,rfl,h⟩
theorem mC {x j pos}:PE X (.Constant (.str x) j pos) (tC (.str x)):=fun _ _ _ H _ I h=>Ci ⟨.str x,H,I.tok _,⟨_,rfl⟩,h⟩
noncomputable def Gl (X:Cx) (x:Str):Prop:=X.env.kindOf x=some .globalImplicit
variable {u:b9}
theorem lA {E:b9->d9->Prop}{pins:List (Addr × Obj)}{s:d9}{σ:St}{H:Hp}{pos:Pos}{Q:b9->d9->Prop} (I:C8 X pins σ H s) (hg:Gl X x) (hm:X.mg x=some u) (h:Q u s)
  (hd:(x == ("__debug__":Str))=false:=by decide):j6 (r6 X.prog X.w) X.A (eval (.Name x pos) X.env) Q E s :=
 tE I.ok.kind hg (Calls.loadGlobal_global (by rw[I.ok.glob];exact I.mod.glob.keeps I.bk) hm h) hd
theorem mJ {E:b9->d9->Prop}{pins:List (Addr × Obj)}{s:d9}{σ:St}{H:Hp}{pos:Pos}{Q:b9->d9->Prop} (I:C8 X pins σ H s) (hg:Gl X x) (hm:X.mg x=none) (hv:X1 x=some u) (h:Q u s)
  (hn:x≠"__name__":=by decide) (hd:(x == ("__debug__":Str))=false:=by decide):j6 (r6 X.prog X.w) X.A (eval (.Name x pos) X.env) Q E s:=by
 obtain ⟨mb,h1,h2⟩:=I.mod.blt
 exact tE I.ok.kind hg (Calls.loadGlobal_builtin (by rw[I.ok.glob];exact I.mod.glob.keeps I.bk) hm (by rw[I.ok.blt];exact h1.keeps I.bk) ((h2 x hn).trans hv) h) hd
theorem Z5 {v:V}{pos:Pos} (hg:Gl X x) (hm:X.mg x=some u) (r:K2 v u) (hd:(x == ("__debug__":Str))=false:=by decide):PE X (.Name x pos) (tC v):=
 fun _ _ _ H _ I h=>lA I hg hm ⟨v,H,I,r,h⟩ hd
theorem FD {v:V}{pos:Pos} (hg:Gl X x) (hm:X.mg x=none) (hv:X1 x=some u) (r:K2 v u) (hn:x≠"__name__":=by decide) (hd:(x == ("__debug__":Str))=false:=by decide):PE X (.Name x pos) (tC v):=
 fun _ _ _ H _ I h=>mJ I hg hm hv ⟨v,H,I,r,h⟩ hn hd
variable {a b:Expr}{ta tb:TE}{pos:Pos}
noncomputable def PC (X:Cx) (op:EL) (a b:Expr) (t:TE):Prop :=
 ∀(pins:List (Addr × Obj)) (s:d9) (σ:St) (H:Hp) (Q:VK),C8 X pins σ H s->t σ H Q ->
  j6 (r6 X.prog X.w) X.A (eval a X.env) (fun v s₁=>j6 (r6 X.prog X.w) X.A (eval b X.env) (fun u s₂=>j6 (r6 X.prog X.w) X.A (T6 op v u) (EP X pins σ Q) X.xe s₂) X.xe s₁) X.xe s
theorem DG (b:Expr) {op:EL} (h:op≠.In) (h2:op≠.NotIn):cO op b=false:=by
 have e1:(op == CmpOp.In)=false:=by cases op <;> first|rfl|exact absurd rfl h
 have e2:(op == LY)=false:=by cases op <;> first|rfl|exact absurd rfl h2
 cases b <;> simp[cO,e1,e2]
noncomputable def tIsN (ta:TE):TE:=fun σ H Q=>ta σ H fun x H1=>Q (.bl (decide (x=.non))) H1
theorem K2.none_iff {x:V}{v:b9} (r:K2 x v):(v == B5)=decide (x=.non):=by
 cases x with
 | non=>cases r;rfl
 | bl _=>cases r;rfl
 | int _=>obtain ⟨t,rfl⟩:=r;rfl
 | str _=>obtain ⟨t,rfl⟩:=r;rfl
 | byt _=>obtain ⟨t,rfl⟩:=r;rfl
 | flt _=>obtain ⟨t,rfl⟩:=r;rfl
 | ref _=>cases r;rfl
 | ty _=>cases r;rfl
theorem IC {j pos'} (ha:PE X a ta):PC X .Is a (.Constant .none j pos') (tIsN ta):=by
 intro pins s σ H Q I h
 refine W8 (ha pins s σ H _ I h) fun v s1 ⟨x,H1,I1,r1,q1⟩=>?_
 exact Constant_none (is_none_gen ⟨.bl _,H1,I1,by rw[r1.none_iff];rfl,q1⟩)
noncomputable def tB (t:TE):TT:=fun σ H Q=>t σ H fun x H1=>∃c,x=.bl c/\Q c H1
theorem Iy {op:EL}{t:TE} (h:PC X op a b t) (h1:cO op b=false:=by first|exact DG _ (by decide) (by decide)|rfl):PT X (.Compare a [op] [b] pos) (tB t):=by
 intro pins s σ H Q I hw
 refine Gp (W8 (h pins s σ H _ I hw) fun v s1 h1=>W8 h1 fun u s2 h2=>W8 h2 fun c s3 ⟨x,H1,I1,r1,q1⟩=>?_) h1
 obtain ⟨d,rfl,q⟩:=q1
 cases r1
 exact S8 ⟨H1,I1,q⟩
theorem Z0 {e:Expr}{t:TE} (h:PE X e t) (he:∀whole,JU e X.env whole=(do let v <- whole;standAt e.pos;LS [v] (truthy v)):=by intro _;rfl):PT X e (tB t):=by
 intro pins s σ H Q I hw
 refine isTrue_plain (W8 (h pins s σ H _ I hw) fun v s1 ⟨x,H1,I1,r1,q1⟩=>?_) (he _)
 obtain ⟨d,rfl,q⟩:=q1
 cases r1
 exact S8 ⟨H1,I1,q⟩
variable {tA tB':TT}{jK:List Expr}
noncomputable def tOr (t u:TT):TT:=fun σ H Q=>t σ H fun c H1=>if c=true then Q true H1 else u σ H1 Q
noncomputable def tNot (t:TT):TT:=fun σ H Q=>t σ H fun c H1=>Q (!c) H1
theorem hJ (ha:PT X a tA):PW X (.BoolOp .Or [a] pos) tA:=by
 intro wh pins s σ H Q I h
 refine isTrue_or (W8 (ha pins s σ H Q I h) fun c s1 e=>?_)
 cases c with
 | false=>exact isTrue_or_nil e
 | true=>exact e
theorem lg (ha:PT X a tA) (hb:PW X (.BoolOp .Or (b::jK) pos) tB'):PW X (.BoolOp .Or (a::b::jK) pos) (tOr tA tB'):=by
 intro wh pins s σ H Q I h
 refine isTrue_or (W8 (ha pins s σ H _ I h) fun c s1 ⟨H1,I1,q1⟩=>?_)
 cases c with
 | true=>exact ⟨H1,I1,q1⟩
 | false=>exact hb wh pins s1 σ H1 Q I1 q1
theorem bo (ha:PT X a tA):PT X (.UnaryOp .Not a pos) (tNot tA):=by
 intro pins s σ H Q I h
 exact isTrue_not (ha pins s σ H (fun c H1=>Q (!c) H1) I h)
noncomputable def GD (ta tb:TE):TE:=fun σ H Q=>ta σ H fun x H1=>∃c,x=.bl c/\if c=true then tb σ H1 Q else Q (.bl false) H1
noncomputable def Ko (ta:TE):TE:=fun σ H Q=>ta σ H fun x H1=>∃c,x=.bl c/\Q (.bl (!c)) H1
theorem cR {op}{t:TE} (h:PE X a t):PE X (.BoolOp op [a] pos) t:=fun pins s σ H Q I hw=>BoolOp_one (h pins s σ H Q I hw)
theorem cS (ha:PE X a ta) (hb:PE X (.BoolOp .And (b::jK) pos) tb):PE X (.BoolOp .And (a::b::jK) pos) (GD ta tb):=by
 intro pins s σ H Q I h
 refine BoolOp_and (W8 (ha pins s σ H _ I h) fun v s1 ⟨x,H1,I1,r1,q1⟩=>?_)
 obtain ⟨c,rfl,q1⟩:=q1
 cases r1
 refine S8 ?_
 cases c with
 | true=>exact hb pins s1 σ H1 Q I1 q1
 | false=>exact ⟨.bl false,H1,I1,rfl,q1⟩
theorem Dg (ha:PE X a ta):PE X (.UnaryOp .Not a pos) (Ko ta):=by
 intro pins s σ H Q I h
 refine UnaryOp_ (W8 (ha pins s σ H _ I h) fun v s1 ⟨x,H1,I1,r1,q1⟩=>?_)
 obtain ⟨c,rfl,q1⟩:=q1
 cases r1
 exact not_of (S8 ⟨.bl (!c),H1,I1,rfl,q1⟩)
end
noncomputable def dP (K:m6) (H:Hp) (a:Addr) (xs:List V):Prop :=
 Rd H a (.lst xs) ∨
  ∃(o:Obj) (its:Array b9) (n:Nat),K.lookup a=some o/\o.cls=.type "list"/\o.dict=none/\o.data=.seq its n/\its.size<=i0/\K4 xs its.toList
noncomputable def dI (K:m6) (H:Hp) (a:Addr) (xs:List V):Prop :=
 Rd H a (.tup xs) ∨
  ∃(o:Obj) (its:Array b9) (n:Nat),K.lookup a=some o/\o.cls=.type "tuple"/\o.data=.seq its n/\its.size<=i0/\K4 xs its.toList
noncomputable def absV:b9->Option V
 | .none=>some .non
 | .bool b=>some (.bl b)
 | .int i _=>some (.int i)
 | .str x _=>some (.str x)
 | .bytes b _=>some (.byt b)
 | .float b _=>some (.flt b)
 | .ref a=>some (.ref a)
 | .type n=>some (.ty n)
 | _=>none
variable {u:b9}
theorem K2.abs {x:V}(r:K2 x u):absV u=some x:=by
 cases x with
 | non=>cases r;rfl
 | bl _=>cases r;rfl
 | int _=>obtain ⟨t,rfl⟩:=r;rfl
 | str _=>obtain ⟨t,rfl⟩:=r;rfl
 | byt _=>obtain ⟨t,rfl⟩:=r;rfl
 | flt _=>obtain ⟨t,rfl⟩:=r;rfl
 | ref _=>cases r;rfl
 | ty _=>cases r;rfl
theorem K2.inj {x y:V}(r:K2 x u) (q:K2 y u):x=y:=C1 (r.abs.symm.trans q.abs)
theorem K4.inj:∀{xs ys:List V}{us:List b9},K4 xs us->K4 ys us->xs=ys
 | _,_,_,.nil,.nil=>rfl
 | _,_,_,.cons r t,.cons r' t'=>by rw[r.inj r',K4.inj t t']
section
variable {X:Cx}{pins:List (Addr × Obj)}{σ:St}{H:Hp}{s:d9}{a:Addr}{xs ys:List V}
theorem dP.of {K:m6} (h:H a=some (.lst xs)):dP K H a xs:=.inl (.inl h)
theorem dI.of {K:m6} (h:H a=some (.tup xs)):dI K H a xs:=.inl (.inl h)
theorem C8.list (I:C8 X pins σ H s) (h:dP X.K H a xs):∃its:List b9,K4 xs its/\PlainL s.heap a its.toArray/\xs.length<=i0:=by
 rcases h with h|⟨o,its,n,hk,hc,hd,hs,hz,r⟩
 ·obtain ⟨z,its,n,r,e⟩:=h.ok I.hok
  exact ⟨its,r,⟨_,n,e,rfl,rfl,rfl⟩,z⟩
 ·refine ⟨its.toList,r,⟨o,n,I.kIn a o hk,hc,hd,by simpa using hs⟩,?_⟩
  have e:=r.length
  simp only[D9] at e
  lia
theorem C8.tuple (I:C8 X pins σ H s) (h:dI X.K H a xs):∃its:List b9,K4 xs its/\xj s.heap a its.toArray/\xs.length<=i0:=by
 rcases h with h|⟨o,its,n,hk,hc,hs,hz,r⟩
 ·obtain ⟨z,its,r,p⟩:=h.ok I.hok
  exact ⟨its,r,p,z⟩
 ·refine ⟨its.toList,r,⟨o,I.kIn a o hk,hc,n,by simpa using hs⟩,?_⟩
  have e:=r.length
  simp only[D9] at e
  lia
theorem C8.list_inj (I:C8 X pins σ H s) (h:dP X.K H a xs) (h':dP X.K H a ys):xs=ys:=by
 obtain ⟨its,r,⟨o,n,e,_,_,d⟩,_⟩:=I.list h
 obtain ⟨its',r',⟨o',n',e',_,_,d'⟩,_⟩:=I.list h'
 rw[e] at e';cases e'
 rw[d] at d'
 injection d' with d1 _
 have:its=its':=by simpa using congrArg Kk d1
 subst this
 exact r.inj r'
theorem C8.tuple_inj (I:C8 X pins σ H s) (h:dI X.K H a xs) (h':dI X.K H a ys):xs=ys:=by
 obtain ⟨its,r,⟨o,e,_,n,d⟩,_⟩:=I.tuple h
 obtain ⟨its',r',⟨o',e',_,n',d'⟩,_⟩:=I.tuple h'
 rw[e] at e';cases e'
 rw[d] at d'
 injection d' with d1 _
 have:its=its':=by simpa using congrArg Kk d1
 subst this
 exact r.inj r'
end
noncomputable abbrev Cx.wish (X:Cx) (E:b9->d9->Prop):Cx:={ X with xe:=E }
noncomputable abbrev Cx.nox (X:Cx):Cx:=X.wish fun _ _=>False
theorem Cx.Ok.wish {X:Cx} (ok:X.Ok) (E:b9->d9->Prop):(X.wish E).Ok :=
 ⟨ok.mod,ok.kind,ok.glob,ok.blt,ok.above,ok.inj,ok.has,ok.cab,ok.hd,ok.frames,ok.stk,ok.exf,ok.bs,ok.bsz,ok.noex,ok.exfs,ok.funs,ok.frf⟩
theorem Cx.Ok.unwish (ok:(X.wish E).Ok):X.Ok :=
 ⟨ok.mod,ok.kind,ok.glob,ok.blt,ok.above,ok.inj,ok.has,ok.cab,ok.hd,ok.frames,ok.stk,ok.exf,ok.bs,ok.bsz,ok.noex,ok.exfs,ok.funs,ok.frf⟩
section
variable {X:Cx}{pins:List (Addr × Obj)}{σ:St}{H:Hp}{s:d9}{E:b9->d9->Prop}
theorem C8.wish (I:C8 X pins σ H s) (E:b9->d9->Prop):C8 (X.wish E) pins σ H s:=⟨I.ok.wish E,I.os,I.bare,I.base,I.loc,I.cell,I.free,I.freeC,I.pin,I.hok,I.len⟩
theorem C8.unwish (I:C8 (X.wish E) pins σ H s):C8 X pins σ H s:=⟨I.ok.unwish,I.os,I.bare,I.base,I.loc,I.cell,I.free,I.freeC,I.pin,I.hok,I.len⟩
theorem SP.unwish {D:qT}{f:Flow}{s':d9} (h:SP (X.wish E) pins D f s'):SP X pins D f s':=by
 cases f with
 | next=>obtain ⟨σ',H',I,q⟩:=h;exact ⟨σ',H',I.unwish,q⟩
 | brk=>obtain ⟨σ',H',I,q⟩:=h;exact ⟨σ',H',I.unwish,q⟩
 | cont=>obtain ⟨σ',H',I,q⟩:=h;exact ⟨σ',H',I.unwish,q⟩
 | ret u=>obtain ⟨v,σ',H',I,r,q⟩:=h;exact ⟨v,σ',H',I.unwish,r,q⟩
theorem rV.nox {st:List Stmt}{t:TS} (h:rV X.nox st t):rV X st t:=fun pins s σ H D I hw =>
 F5 (h pins s σ H D (I.wish _) hw) (fun _ _ q=>q.unwish) fun _ _ z=>F7 z
end
section
variable {X:Cx}{st:Stmt}{jK:List Stmt}{t u:TS}{e:Expr}{te:TE}{pos:Pos}
noncomputable def Kq:TS:=fun D σ H=>D.nx σ H
noncomputable def iM (t u:TS):TS:=fun D σ H=>t { D with nx:=u D } σ H
theorem J7:rV X [] Kq:=fun _ _ σ H _ I h=>cZ ⟨σ,H,I,h⟩
theorem m7 (h1:PS X st t) (h2:rV X jK u):rV X (st::jK) (iM t u):=by
 intro pins s σ H D I h
 refine vd (W8 (h1 pins s σ H { D with nx:=u D } I h) fun f s1 q=>?_)
 cases f with
 | next =>
  obtain ⟨σ',H',I',q⟩:=q
  exact h2 pins s1 σ' H' D I' q
 | ret v=>exact q
 | brk=>exact q
 | cont=>exact q
theorem t6 (h1:PS X st t):rV X [st] t:=by
 intro pins s σ H D I h
 refine vd (W8 (h1 pins s σ H D I h) fun f s1 q=>?_)
 cases f with
 | next=>exact cZ q
 | ret v=>exact q
 | brk=>exact q
 | cont=>exact q
theorem C8.quiet {pins:List (Addr × Obj)}{σ:St}{H:Hp}{s:d9} (I:C8 X pins σ H s):interactive X.env=false:=by simp[interactive,I.ok.kind]
noncomputable def Kt (te:TE):TS:=fun D σ H=>te σ H fun _ H1=>D.nx σ H1
theorem jz (he:PE X e te) (hs:om e none pos.line X.env=pure false:=by rfl):PS X (.Expr e pos) (Kt te):=by
 intro pins s σ H D I h
 exact wpAny_Expr_any (W8 (he pins s σ H _ I h) fun v s1 ⟨x,H1,I1,r1,q1⟩=>⟨σ,H1,I1,q1⟩) I.quiet hs
noncomputable def HQ (te:TE):TS:=fun D σ H=>te σ H D.rt
theorem C6 (he:PE X e te):PS X (.Return (some e) pos) (HQ te):=by
 intro pins s σ H D I h
 exact wpAny_Return_some (W8 (he pins s σ H _ I h) fun v s1 ⟨x,H1,I1,r1,q1⟩=>⟨x,σ,H1,I1,r1,q1⟩)
noncomputable def tIfS (c:TT) (t u:TS):TS:=fun D σ H=>c σ H fun b H1=>if b=true then t D σ H1 else u D σ H1
theorem T9 {c:Expr}{a b:List Stmt}{tc:TT} (hc:PT X c tc) (ha:rV X a t) (hb:rV X b u):PS X (.If c a b pos) (tIfS tc t u):=by
 intro pins s σ H D I h
 refine wpAny_If (W8 (hc pins s σ H _ I h) fun d s1 ⟨H1,I1,q1⟩=>?_)
 cases d with
 | true=>exact ha pins s1 σ H1 D I1 q1
 | false=>exact hb pins s1 σ H1 D I1 q1
noncomputable def HS:TS:=fun _ _ _=>False
theorem jy {sts:List Stmt}:rV X sts HS:=fun _ _ _ _ _ _ h=>h.elim
end
noncomputable abbrev TG:=V->St->Hp->(St->Hp->Prop)->Prop
noncomputable abbrev GU:=List V->St->Hp->(St->Hp->Prop)->Prop
noncomputable def PG (X:Cx) (target:Expr) (t:TG):Prop :=
 ∀(pins:List (Addr × Obj)) (s:d9) (σ:St) (H:Hp) (v:V) (u:b9) (Q:St->Hp->Prop),C8 X pins σ H s->K2 v u->t v σ H Q ->
  j6 (r6 X.prog X.w) X.A (rD target X.env u) (fun _ s'=>∃σ' H',C8 X pins σ' H' s'/\Q σ' H') X.xe s
noncomputable def Lx (X:Cx) (ts:List Expr) (t:GU):Prop :=
 ∀(pins:List (Addr × Obj)) (s:d9) (σ:St) (H:Hp) (vs:List V) (us:List b9) (Q:St->Hp->Prop),C8 X pins σ H s->K4 vs us->t vs σ H Q ->
  j6 (r6 X.prog X.w) X.A (jG ((fE ts X.env).map (·.2)) us) (fun _ s'=>∃σ' H',C8 X pins σ' H' s'/\Q σ' H') X.xe s
noncomputable abbrev Jp:=V->V->V->Hp->(Hp->Prop)->Prop
noncomputable def Lw (X:Cx) (t:Jp):Prop :=
 ∀(pins:List (Addr × Obj)) (s:d9) (σ:St) (H:Hp) (o i v:V) (ov iv u:b9) (Q:Hp->Prop),C8 X pins σ H s->K2 o ov->K2 i iv->K2 v u->t o i v H Q ->
  j6 (r6 X.prog X.w) X.A (setItem ov iv u) (fun _ s'=>∃H',C8 X pins σ H' s'/\Q H') X.xe s
section
variable {X:Cx}{pos:Pos}
noncomputable def bC (i:Nat):TG:=fun v σ H Q=>Q (σ.set i (some v)) H
theorem W3 {i:Nat}{x:Str} (hN:X.N.Nodup) (hi:X.N[i]?=some x) (hx:LA X.env.scope x) (hf:X.fn x=true ∨ X.env.scope.names.lookup x=some .local:=by first|exact .inl rfl|exact .inr rfl|assumption):PG X (.Name x pos) (bC i):=by
 intro pins s σ H v u Q I r h
 exact LP (cq I hN hi hx r (fun s' I'=>⟨_,H,I',h⟩) hf)
noncomputable def DY:GU:=fun vs σ H Q=>vs=[]/\Q σ H
noncomputable def lF (t:TG) (u:GU):GU:=fun vs σ H Q=>∃v r,vs=v::r/\t v σ H fun σ' H'=>u r σ' H' Q
theorem cw:Lx X [] DY:=by
 intro pins s σ H vs us Q I r h
 obtain ⟨e,h⟩:=h
 subst e
 cases r
 exact tm ⟨σ,H,I,h⟩
theorem M6 {e:Expr}{es:List Expr}{t:TG}{u:GU} (h1:PG X e t) (h2:Lx X es u)
  (hs:(fE (e::es) X.env).map (·.2)=rD e X.env::(fE es X.env).map (·.2):=by rfl):Lx X (e::es) (lF t u):=by
 intro pins s σ H vs us Q I r h
 obtain ⟨v,vr,e1,h⟩:=h
 subst e1
 cases r with
 | cons r rr =>
  rw[hs]
  refine aX (W8 (h1 pins s σ H _ _ _ I r h) fun _ s1 ⟨σ1,H1,I1,q1⟩=>?_)
  exact h2 pins s1 σ1 H1 _ _ Q I1 rr q1
noncomputable def Ba (K:m6) (n:Nat) (t:GU):TG:=fun v σ H Q=>∃a xs,v=.ref a/\dI K H a xs/\xs.length=n/\t xs σ H Q
theorem mB {es:List Expr}{k:Nat}{t:GU}{n:Nat} (hc:X.calm=true) (h:Lx X es t)
  (hn:(fE es X.env).length=n:=by rfl) (hst:(fE es X.env).findIdx? (·.1)=none:=by rfl):PG X (.Tuple es k pos) (Ba X.K n t):=by
 intro pins s σ H v u Q I r hw
 obtain ⟨a,xs,e1,hq,hl,hw⟩:=hw
 subst e1
 cases r
 obtain ⟨its,rv,ht,hz⟩:=I.tuple hq
 refine assign_Tuple_tuple (I.ok.hd hc) ht (by simp[hn,<- hl,rv.length]) hst fun h' hx=>?_
 have I1:C8 X pins σ H { s with heap:=h' }:=I.kept (t':=s.toks) fun b o e=>hx b o (n0 (i5 e)) e
 exact h pins _ σ H xs _ Q I1 (by simpa using rv) hw
noncomputable def gSub (to ti:TE) (t:Jp):TG:=fun v σ H Q=>to σ H fun o H1=>ti σ H1 fun i H2=>t o i v H2 fun H3=>Q σ H3
theorem ug {o i:Expr}{to ti:TE}{t:Jp} (ho:PE X o to) (hi:PE X i ti) (hs:Lw X t)
  (ha:∀v,rD (.Subscript o i pos) X.env v=(do
   let ov <- LS [v] (eval o X.env)
   let iv <- LS [v,ov] (eval i X.env)
   standAt pos
   LS [v,ov,iv] (setItem ov iv v)
   release [v,ov,iv] []):=by intro _;rfl):PG X (.Subscript o i pos) (gSub to ti t):=by
 intro pins s σ H v u Q I r h
 rw[ha]
 refine b7 (L8 (W8 (ho pins s σ H _ I h) fun ov s1 ⟨x,H1,I1,r1,q1⟩=>?_))
 refine b7 (L8 (W8 (hi pins s1 σ H1 _ I1 q1) fun iv s2 ⟨y,H2,I2,r2,q2⟩=>?_))
 refine b7 (fJ (b7 (L8 (W8 (hs pins s2 σ H2 x y v ov iv u _ I2 r1 r2 r q2) fun _ s3 ⟨H3,I3,q3⟩=>?_))))
 exact wpAny_release ⟨σ,H3,I3,q3⟩
noncomputable def Fs (te:TE) (g:TG):TS:=fun D σ H=>te σ H fun x H1=>g x σ H1 D.nx
theorem uc {tg e:Expr}{te:TE}{g:TG} (he:PE X e te) (hg:PG X tg g) (hs:BL [tg] e pos.line X.env=pure false:=by rfl) (hw:qX [tg] e X.env=pure none:=by rfl)
  (h1:(fE [tg] X.env).map (·.2)=[rD tg X.env]:=by rfl):PS X (.Assign [tg] e pos) (Fs te g):=by
 intro pins s σ H D I h
 refine wpAny_Assign_stores (W8 (he pins s σ H _ I h) fun v s1 ⟨x,H1,I1,r1,q1⟩=>?_) hs hw
 rw[h1]
 exact W8 (hg pins s1 σ H1 x v _ I1 r1 q1) fun _ s2 q=>q
theorem F8 {i:Nat}{x:Str}{e:Expr}{te:TE}{pos':Pos} (hN:X.N.Nodup) (hi:X.N[i]?=some x) (hx:LA X.env.scope x) (he:PE X e te) (hs:om e (some (.Name x pos')) pos.line X.env=pure false:=by rfl) (hf:X.fn x=true ∨ X.env.scope.names.lookup x=some .local:=by first|exact .inl rfl|exact .inr rfl|assumption):
  PS X (.Assign [.Name x pos'] e pos) (Fs te (bC i)):=by
 intro pins s σ H D I h
 refine wpAny_Assign_Name (W8 (he pins s σ H _ I h) fun v s1 ⟨y,H1,I1,r1,q1⟩=>?_) hs
 exact cq I1 hN hi hx r1 (fun s2 I2=>⟨_,H1,I2,q1⟩) hf
noncomputable def tPar (i j:Nat) (ta:TA):TS:=fun D σ H=>ta σ H fun vs H1=>∃v w,vs=[v,w]/\D.nx ((σ.set i (some v)).set j (some w)) H1
theorem qe {i j:Nat}{x y:Str}{a b:Expr}{ta:TA}{px py pt:Pos}{kt k2 pt2} (hc:X.calm=true) (hN:X.N.Nodup) (hi:X.N[i]?=some x) (hj:X.N[j]?=some y) (hij:i≠j)
  (hx:X.env.scope.names.lookup x=some .local) (hy:X.env.scope.names.lookup y=some .local) (ha:PA X [a,b] ta)
  (hw:qX [.Tuple [.Name x px,.Name y py] kt pt] (.Tuple [a,b] k2 pt2) X.env=pure (some [x,y]))
  (hs:BL [.Tuple [.Name x px,.Name y py] kt pt] (.Tuple [a,b] k2 pt2) pos.line X.env=pure false:=by rfl):
  PS X (.Assign [.Tuple [.Name x px,.Name y py] kt pt] (.Tuple [a,b] k2 pt2) pos) (tPar i j ta):=by
 intro pins s σ H D I h
 rw[exec_Assign_arm]
 refine b7 (fJ ?_)
 rw[hs]
 refine b7 (d6 ?_)
 rw[if_neg (by decide)]
 refine b7 (Tuple_ (W8 (ha _ pins s σ H _ I h) fun us s1 ⟨vs,H1,I1,r1,q1⟩=>?_))
 obtain ⟨v,w,e1,q1⟩:=q1
 subst e1
 obtain ⟨u1,u2,rfl,rv,rw'⟩:∃u1 u2,us=[u1,u2]/\K2 v u1/\K2 w u2:=by
  cases r1 with
  | cons p q =>
   cases q with
   | cons p' q' =>
    cases q'
    exact ⟨_,_,rfl,p,p'⟩
 refine B6 ?_ (by show 2<=i0;decide)
 have I2:C8 X pins σ H1 { s1 with heap:=s1.heap.push { cls:=.type "tuple",data:=.seq [u1,u2].toArray } }:=I1.kept (t':=s1.toks) fun b o e=>d7 _ e
 rw[hw]
 refine b7 (d6 ?_)
 show j6 (r6 X.prog X.w) X.A (do rule "assign.swapped-stores";let items <- unpackItems (.ref s1.heap.objs.size) 2 none;jG [fun v=>dY X.env y v,fun v=>dY X.env x v] items.reverse;pure xA) _ _ _
 refine b7 (Q9 (b7 (LQ (items:=#[u1,u2]) (I.ok.hd hc) (iL s1.heap _) fun h' hx'=>?_)))
 have I3:=I2.kept (h':=h') (t':=s1.toks) fun b o e=>hx' b o (n0 (i5 e)) e
 show j6 _ _ (jG [fun v=>dY X.env y v,fun v=>dY X.env x v] [u2,u1] >>= fun _=>pure xA) _ _ _
 refine b7 (aX (dW (cq I3 hN hj (.inl hy) rw' (fun s2 I4=>?_) (.inr hy))))
 refine aX (dW (cq I4 hN hi (.inl hx) rv (fun s3 I5=>tm (d6 ?_)) (.inr hx)))
 rw[lU _ _ (F6 hij)] at I5
 exact ⟨_,H1,I5,q1⟩
noncomputable def HP (c:TT) (tb:TS):TS:=fun D σ H=>∃W:Nat->St->Hp->Prop,(∃m,W m σ H)/\∀m σ H,W m σ H ->
 c σ H fun b H1=>if b=true then ∃N:St->Hp->Prop,(∀σ' H',N σ' H'->∃m',m'<m/\W m' σ' H')/\tb { D with nx:=N,ct:=N,bk:=D.nx } σ H1 else D.nx σ H1
theorem vO {c:Expr}{body:List Stmt}{tc:TT}{tb:TS} (hp:PassesOwn (r6 X.prog X.w) X.A X.env X.xe) (hc:PT X c tc) (hb:rV X body tb):PS X (.While c body [] pos) (HP tc tb):=by
 intro pins s σ H D I h
 obtain ⟨W,⟨m0,w0⟩,turn⟩:=h
 refine wpAny_While (codeAny_whileLoop (fun n s'=>∃σ' H',C8 X pins σ' H' s'/\W n σ' H') ?_ m0 ⟨σ,H,I,w0⟩)
 rintro n s1 ⟨σ1,H1,I1,w1⟩
 refine bj hp (W8 (hc pins s1 σ1 H1 _ I1 (turn n σ1 H1 w1)) fun b s2 ⟨H2,I2,q2⟩=>?_)
 cases b with
 | true =>
  obtain ⟨N,hN,q2⟩:=q2
  rw[if_pos rfl]
  refine bj hp (W8 (hb pins s2 σ1 H2 _ I2 q2) fun f s3 q3=>?_)
  cases f with
  | next =>
   obtain ⟨σ3,H3,I3,n3⟩:=q3
   obtain ⟨m',hm,w3⟩:=hN σ3 H3 n3
   exact ⟨m',hm,σ3,H3,I3,w3⟩
  | cont =>
   obtain ⟨σ3,H3,I3,n3⟩:=q3
   obtain ⟨m',hm,w3⟩:=hN σ3 H3 n3
   exact ⟨m',hm,σ3,H3,I3,w3⟩
  | brk=>exact q3
  | ret v=>exact q3
 | false =>
  rw[if_neg t7]
  exact cZ ⟨σ1,H2,I2,q2⟩
end
structure It where
 go:Nat->Hp->Prop
 yld:Nat->Hp->V->Hp->Prop
 stop:Nat->Hp->Prop
noncomputable def oj (X:Cx) (pins:List (Addr × Obj)) (H:Hp) (b:Addr):Prop :=
 H b=none/\b≠X.env.locals/\b ∉ X.fs/\(b∈X.ex ∨ X.s₀.heap.objs.size<=b)/\(∀x c,X.env.cells.lookup x=some c->c≠b)/\∀p∈X.pn++pins,p.1≠b
variable {σ:St}
theorem C8.fpOk {pins:List (Addr × Obj)}{H':Hp}(I:C8 X pins σ H s) (hb:s.heap.objs.size<=b) (hn:H' b=none):oj X pins H' b:=by
 refine ⟨hn,B9 (A3 I.lt hb),I.nofs hb,.inr (j0 I.sz hb),fun x c e z=>?_,fun p hp z=>?_⟩
 ·obtain ⟨v,q⟩:=I.cell x c e
  exact absurd (A3 q.lt (by rw[z];exact hb)) (aR _)
 ·exact absurd (A3 (i5 (I.pin p hp).1) (by rw[z];exact hb)) (aR _)
structure rS (P:j7) (w:u9) (K:m6) (tg:Expr) (J:It) (fp:List Addr) (it:Addr) (tn:Nat->Heap->Prop):Prop where
 mem:it∈fp
 obj:∀i h,tn i h->∀b∈fp,∃o,h.get? b=some o/\∀v,o.data≠.cell v
 keep:∀i h h',tn i h->(∀b∈fp,∀o,h.get? b=some o->h'.get? b=some o)->tn i h'
 item:∀(X:Cx),X.prog=P->X.w=w->X.K=K->X.calm=true->∀(i:Nat) (pins:List (Addr × Obj)) (s:d9) (σ:St) (H:Hp) (E:b9->d9->Prop),C8 X pins σ H s->(∀b∈fp,oj X pins H b)->tn i s.heap->J.go i H ->
  j6 (r6 P w) X.A (Y1 (.ref it)) (fun r s1=>∃u,r=some u /\
   j6 (r6 P w) X.A (lO tg (.ref it) u) (fun _ s2=>∃x H',C8 X pins σ H' s2/\K2 x u/\J.yld i H x H'/\tn (i+1) s2.heap/\∀b∈fp,H' b=none) E s1) E s
 done:∀(X:Cx),X.prog=P->X.w=w->X.K=K->X.calm=true->∀(i:Nat) (pins:List (Addr × Obj)) (s:d9) (σ:St) (H:Hp) (E:b9->d9->Prop),C8 X pins σ H s->(∀b∈fp,oj X pins H b)->tn i s.heap->J.stop i H ->
  j6 (r6 P w) X.A (Y1 (.ref it)) (fun r s1=>r=none/\C8 X pins σ H s1) E s
 self:∀(A:A8) (i:Nat) (s:d9) (Q:b9->d9->Prop) (E:b9->d9->Prop),tn i s.heap->Q (.ref it) s->j6 (r6 P w) A (nW (.ref it)) Q E s
noncomputable abbrev TI:=St->Hp->(It->Hp->Prop)->Prop
noncomputable def Mb (X:Cx) (pins:List (Addr × Obj)) (σ:St) (tg:Expr) (R:It->Hp->Prop) (itv:b9) (s2:d9):Prop :=
 ∃(it:Addr) (fp:List Addr) (tn:Nat->Heap->Prop) (J:It) (H':Hp),itv=.ref it/\C8 X pins σ H' s2/\rS X.prog X.w X.K tg J fp it tn/\tn 0 s2.heap/\(∀b∈fp,oj X pins H' b)/\R J H'
noncomputable def PI (X:Cx) (tg iter:Expr) (wi:TI):Prop :=
 ∀(pins:List (Addr × Obj)) (s:d9) (σ:St) (H:Hp) (R:It->Hp->Prop),C8 X pins σ H s->wi σ H R ->
  j6 (r6 X.prog X.w) X.A (eval iter X.env) (fun v s1=>j6 (r6 X.prog X.w) X.A (nW v) (Mb X pins σ tg R) X.xe s1) X.xe s
variable {tg:Expr}
theorem zG {M:lQ}{it:Addr}{o:Obj}{n:String}{vs:Array b9}{Q:Unit->d9->Prop} (ho:s.heap.get? it=some o) (hc:o.cls=.type n) (hd:o.data=.fields vs)
  (hn:["enumerate","zip","dict_itemiterator","dict_reverseitemiterator","odict_iterator","itertools.zip_longest","itertools.pairwise"].contains n=false) (hQ:Q () s):j6 M A (lO tg (.ref it) u) Q E s:=by
 unfold lO
 cases tg <;> first
  | exact d6 hQ
  | (cases u <;> first
    | exact d6 hQ
    | (refine b7 (wpAny_load ho ?_)
       rw[hc,hd]
       show j6 M A (if (["enumerate","zip","dict_itemiterator","dict_reverseitemiterator","odict_iterator","itertools.zip_longest","itertools.pairwise"].contains n&&vs[0]? == some (U9 _))=true then _ else _) Q E s
       rw[if_neg (by intro h;rw[hn,P3] at h;cases h)]
       exact d6 hQ))
noncomputable def JQ (K:m6) (a:Addr):It :=
 ⟨fun i H=>∃xs x,dP K H a xs/\xs[i]?=some x,fun i H x H'=>H'=H/\∀xs,dP K H a xs->xs[i]?=some x,fun i H=>∃xs,dP K H a xs/\xs.length<=i⟩
noncomputable def JO (K:m6) (a:Addr):It :=
 ⟨fun i H=>∃xs x,dI K H a xs/\xs[i]?=some x,fun i H x H'=>H'=H/\∀xs,dI K H a xs->xs[i]?=some x,fun i H=>∃xs,dI K H a xs/\xs.length<=i⟩
noncomputable def Jt (lo:Int) (n:Nat):It:=⟨fun i _=>i<n,fun i H x H'=>H'=H/\x=.int (lo+i),fun i _=>n<=i⟩
variable {K:m6}
theorem Av (a it:Addr):rS P w K tg (JQ K a) [it] it (fun i h=>h.IsListIter it a i) where
 mem:=by simp
 obj:=fun i h st b hb=>by
  have e:b=it:=by simpa using hb
  subst e
  obtain ⟨o,e,c,d⟩:=st
  exact ⟨o,e,fun v z=>by rw[d] at z;cases z⟩
 keep:=fun i h h' st k=>st.at fun o e=>k it (by simp) o e
 item:=by
  intro X hP hw hK hc i pins s σ H E I hf st hg
  subst hP hw hK
  obtain ⟨xs,x,hq,hx⟩:=hg
  obtain ⟨its,rv,p,hz⟩:=I.list hq
  obtain ⟨u,hu,ru⟩:=rv.get hx
  obtain ⟨f0,f1,f2,f3,f4,f5⟩:=hf it (by simp)
  refine wpAny_pyNext_list_item st p.isList (x:=u) (by simpa using hu) fun h' st' sb=>?_
  have I1:C8 X pins σ H { s with heap:=h' }:=I.turned (t':=s.toks) (fun b o hb e=>(sb.2 b hb).trans e) f0 f1 f3 f4 f5
  obtain ⟨o,e,c,d⟩:=id st'
  exact ⟨u,rfl,zG (s:={ s with heap:=h' }) e c d (by decide) ⟨x,H,I1,ru,⟨rfl,fun ys hy=>by rw[I.list_inj hy hq];exact hx⟩,st',fun b hb=>(hf b hb).1⟩⟩
 done:=by
  intro X hP hw hK hc i pins s σ H E I hf st hg
  subst hP hw hK
  obtain ⟨xs,hq,hx⟩:=hg
  obtain ⟨its,rv,p,hz⟩:=I.list hq
  obtain ⟨f0,f1,f2,f3,f4,f5⟩:=hf it (by simp)
  have hl:=rv.length
  exact wpAny_pyNext_list_end (I.ok.hd hc) st p.isList (by simp;lia) fun h' eb=>⟨rfl,I.turned (t':=s.toks) (fun b o hb e=>eb b o hb e) f0 f1 f3 f4 f5⟩
 self:=fun _ _ _ _ _ st h=>wpAny_pyIter_listiter st h
theorem xB (a it:Addr):rS P w K tg (JO K a) [it] it (fun i h=>h.IsTupleIter it a i) where
 mem:=by simp
 obj:=fun i h st b hb=>by
  have e:b=it:=by simpa using hb
  subst e
  obtain ⟨o,e,c,d⟩:=st
  exact ⟨o,e,fun v z=>by rw[d] at z;cases z⟩
 keep:=fun i h h' st k=>st.at fun o e=>k it (by simp) o e
 item:=by
  intro X hP hw hK hc i pins s σ H E I hf st hg
  subst hP hw hK
  obtain ⟨xs,x,hq,hx⟩:=hg
  obtain ⟨its,rv,p,hz⟩:=I.tuple hq
  obtain ⟨u,hu,ru⟩:=rv.get hx
  obtain ⟨f0,f1,f2,f3,f4,f5⟩:=hf it (by simp)
  refine wpAny_pyNext_tuple_item st (show s.heap.IsTuple a its.toArray from p) (x:=u) (by simpa using hu) fun h' st' sb=>?_
  have I1:C8 X pins σ H { s with heap:=h' }:=I.turned (t':=s.toks) (fun b o hb e=>(sb.2 b hb).trans e) f0 f1 f3 f4 f5
  obtain ⟨o,e,c,d⟩:=id st'
  exact ⟨u,rfl,zG (s:={ s with heap:=h' }) e c d (by decide) ⟨x,H,I1,ru,⟨rfl,fun ys hy=>by rw[I.tuple_inj hy hq];exact hx⟩,st',fun b hb=>(hf b hb).1⟩⟩
 done:=by
  intro X hP hw hK hc i pins s σ H E I hf st hg
  subst hP hw hK
  obtain ⟨xs,hq,hx⟩:=hg
  obtain ⟨its,rv,p,hz⟩:=I.tuple hq
  obtain ⟨f0,f1,f2,f3,f4,f5⟩:=hf it (by simp)
  have hl:=rv.length
  exact wpAny_pyNext_tuple_end (I.ok.hd hc) st (show s.heap.IsTuple a its.toArray from p) (by simp;lia) fun h' eb=>⟨rfl,I.turned (t':=s.toks) (fun b o hb e=>eb b o hb e) f0 f1 f3 f4 f5⟩
 self:=fun _ _ _ _ _ st h=>wpAny_pyIter_tupleiter st h
theorem xC (it:Addr) (lo:Int) (n:Nat):rS P w K tg (Jt lo n) [it] it (fun i h=>IsRangeIter h it (lo+(i:Nat)*1) ((n:Int) - (i:Nat)) 1) where
 mem:=by simp
 obj:=fun i h st b hb=>by
  have e:b=it:=by simpa using hb
  subst e
  exact ⟨_,st,fun v z=>by
   have z':Data.fields _=Data.cell v:=z
   cases z'⟩
 keep:=fun i h h' st k=>k it (by simp) _ st
 item:=by
  intro X hP hw hK hc i pins s σ H E I hf st hg
  subst hP hw hK
  obtain ⟨f0,f1,f2,f3,f4,f5⟩:=hf it (by simp)
  have W:=Walks.range (prog:=X.prog) (w:=X.w) (I.ok.hd hc) it lo 1 n
  refine W.item i s _ _ hg st fun v h' tk hv st' kk=>?_
  obtain ⟨t,rfl⟩:=hv
  have I1:C8 X pins σ H { s with heap:=h',toks:=tk }:=I.turned (fun b o hb e=>kk b o (by simpa using hb) e) f0 f1 f3 f4 f5
  refine ⟨_,rfl,zG (s:={ s with heap:=h',toks:=tk }) (n:="range_iterator") st' rfl rfl (by decide) ⟨.int (lo+i),H,I1,⟨t,?_⟩,⟨rfl,rfl⟩,st',fun b hb=>(hf b hb).1⟩⟩
  rw[Int.mul_one]
 done:=by
  intro X hP hw hK hc i pins s σ H E I hf st hg
  subst hP hw hK
  obtain ⟨f0,f1,f2,f3,f4,f5⟩:=hf it (by simp)
  exact wpAny_pyNext_range_end (I.ok.hd hc) st (by have:n<=i:=hg;lia) fun h' eb=>⟨rfl,I.turned (t':=s.toks) (fun b o hb e=>eb b o hb e) f0 f1 f3 f4 f5⟩
 self:=fun _ _ _ _ _ st h=>wpAny_pyIter_rangeiter st h
section
variable {X:Cx}{tg:Expr}
noncomputable def Ll (K:m6) (tl:TE):TI:=fun σ H R=>tl σ H fun x H1=>∃a,x=.ref a/\(∃xs,dP K H1 a xs)/\R (JQ K a) H1
noncomputable def iTup (K:m6) (tl:TE):TI:=fun σ H R=>tl σ H fun x H1=>∃a,x=.ref a/\(∃xs,dI K H1 a xs)/\R (JO K a) H1
theorem oD {l:Expr}{tl:TE} (hl:PE X l tl):PI X tg l (Ll X.K tl):=by
 intro pins s σ H R I h
 refine W8 (hl pins s σ H _ I h) fun v s1 ⟨x,H1,I1,r1,q1⟩=>?_
 obtain ⟨a,e,⟨xs,hq⟩,q⟩:=q1
 subst e
 cases r1
 obtain ⟨its,rv,p,hz⟩:=I1.list hq
 refine sU p.isList ?_
 refine ⟨s1.heap.objs.size,[s1.heap.objs.size],_,_,H1,rfl,I1.kept (t':=s1.toks) fun b o e=>d7 _ e,Av a _,⟨_,j9 _ rfl,rfl,rfl⟩,fun b hb=>?_,q⟩
 have e:b=s1.heap.objs.size:=by simpa using hb
 subst e
 exact I1.fpOk (i6 _) (I1.hok.fresh (i6 _))
theorem qg {l:Expr}{tl:TE} (hl:PE X l tl):PI X tg l (iTup X.K tl):=by
 intro pins s σ H R I h
 refine W8 (hl pins s σ H _ I h) fun v s1 ⟨x,H1,I1,r1,q1⟩=>?_
 obtain ⟨a,e,⟨xs,hq⟩,q⟩:=q1
 subst e
 cases r1
 obtain ⟨its,rv,p,hz⟩:=I1.tuple hq
 refine aV (show s1.heap.IsTuple a its.toArray from p) ?_
 refine ⟨s1.heap.objs.size,[s1.heap.objs.size],_,_,H1,rfl,I1.kept (t':=s1.toks) fun b o e=>d7 _ e,xB a _,⟨_,j9 _ rfl,rfl,rfl⟩,fun b hb=>?_,q⟩
 have e:b=s1.heap.objs.size:=by simpa using hb
 subst e
 exact I1.fpOk (i6 _) (I1.hok.fresh (i6 _))
variable {pins:List (Addr × Obj)}{σ:St}{H:Hp}{s:d9}
theorem CU {R:It->Hp->Prop}{E:b9->d9->Prop}{lo hi:Int}{t u v:Tok}{tk:Nat} (I:C8 X pins σ H s) (h1:-(2 ^ 62)<=lo) (h2:lo<2 ^ 62) (h3:-(2 ^ 62)<=hi) (h4:hi<2 ^ 62)
  (q:R (Jt lo (hi - lo).toNat) H):j6 (r6 X.prog X.w) X.A (nW (.ref s.heap.objs.size)) (Mb X pins σ tg R) E { s with heap:=s.heap.push { cls:=.type "range",data:=.fields #[.int lo t,.int hi u,.int 1 v] },toks:=tk }:=by
 refine wpAny_pyIter_range (IsRange.new ..) (small_one h1 h2 h3 h4) ?_
 have I1:C8 X pins σ H { s with heap:=s.heap.push { cls:=.type "range",data:=.fields #[.int lo t,.int hi u,.int 1 v] },toks:=tk }:=I.kept fun b o e=>d7 _ e
 refine ⟨(s.heap.push { cls:=.type "range",data:=.fields #[.int lo t,.int hi u,.int 1 v] }).objs.size,[(s.heap.push { cls:=.type "range",data:=.fields #[.int lo t,.int hi u,.int 1 v] }).objs.size],_,_,H,rfl,
  I1.kept (t':=tk) fun b o e=>d7 _ e,xC _ lo (hi - lo).toNat,?_,fun b hb=>?_,q⟩
 ·have e1:lo+((0:Nat):Int)*1=lo:=by simp
  have e2:(((hi - lo).toNat:Nat):Int) - ((0:Nat):Int)=Builtin.Range.rangeSize lo hi 1:=by rw[rangeSize_one];split <;> lia
  show IsRangeIter _ _ (lo+((0:Nat):Int)*1) ((((hi - lo).toNat:Nat):Int) - ((0:Nat):Int)) 1
  rw[e1,e2]
  exact j9 _ rfl
 ·have e:b=(s.heap.push { cls:=.type "range",data:=.fields #[.int lo t,.int hi u,.int 1 v] }).objs.size:=by simpa using hb
  subst e
  exact I1.fpOk (i6 _) (I1.hok.fresh (i6 _))
noncomputable def Lk (ta:TA):TI:=fun σ H R=>ta σ H fun vs H1=>∃j:Int,vs=[.int j]/\-(2 ^ 62)<=j/\j<2 ^ 62/\R (Jt 0 j.toNat) H1
theorem S2 {a:Expr}{ta:TA}{p pos:Pos} (hg:Gl X "range") (hm:X.mg "range"=none) (ha:PA X [a] ta) (hs:A4 [a] X.env=[(false,eval a X.env)]:=by rfl):PI X tg (.Call (.Name "range" p) [a] [] pos) (Lk ta):=by
 intro pins s σ H R I h
 refine Call_ (mJ I hg hm boot_range (af (W8 (ha pos pins s σ H _ I h) fun us s1 ⟨vs,H1,I1,r1,q1⟩=>?_) hs rfl))
 obtain ⟨j,e,q1,q2,q⟩:=q1
 subst e
 cases r1 with
 | cons r rr =>
  cases rr
  obtain ⟨t,rfl⟩:=r
  exact call_range_1 (CU I1 (by lia) (by lia) q1 q2 (by simpa using q))
noncomputable def Ks (wi:TI) (g:TG) (tb:TS):TS:=fun D σ H=>wi σ H fun J H1=>∃W:Nat->Nat->St->Hp->Prop,(∃m,W 0 m σ H1)/\∀i m σ H,W i m σ H ->
 (J.stop i H/\D.nx σ H) ∨ (J.go i H/\∃N:St->Hp->Prop,(∀σ' H',N σ' H'->∃m',m'<m/\W (i+1) m' σ' H')/\∀x H',J.yld i H x H'->g x σ H' fun σ2 H2=>tb { D with nx:=N,ct:=N,bk:=D.nx } σ2 H2)
noncomputable def ue (fp:List Addr) (h:Heap):List (Addr × Obj):=fp.filterMap fun b=>(h.get? b).map fun o=>(b,o)
variable {fp:List Addr}
theorem cV {h:Heap}{b:Addr}{o:Obj} (hb:b∈fp) (e:h.get? b=some o):(b,o)∈ue fp h:=List.mem_filterMap.mpr ⟨b,hb,by rw[e];rfl⟩
theorem AK {h:Heap}{p:Addr × Obj} (hp:p∈ue fp h):p.1∈fp/\h.get? p.1=some p.2:=by
 obtain ⟨b,hb,e⟩:=List.mem_filterMap.mp hp
 cases q:h.get? b with
 | none=>rw[q] at e;cases e
 | some o =>
  rw[q] at e
  have e':(b,o)=p:=C1 e
  subst e'
  exact ⟨hb,q⟩
theorem C8.pinned (I:C8 X pins σ H s) (hf:∀b∈fp,oj X pins H b) (ho:∀b∈fp,∃o,s.heap.get? b=some o/\∀v,o.data≠.cell v):C8 X (pins++ue fp s.heap) σ H s :=
 I.pins_of fun p hp=>(List.mem_append.mp hp).elim (fun z=>I.pin p (v9 _ z)) fun z=>by
  obtain ⟨hb,e⟩:=AK z
  obtain ⟨f0,f1,f2,_⟩:=hf p.1 hb
  obtain ⟨o,e',d⟩:=ho p.1 hb
  rw[e] at e';cases e'
  exact ⟨e,f0,f1,f2,d⟩
theorem C8.unpinned {pl:List (Addr × Obj)}(I:C8 X (pins++pl) σ H s):C8 X pins σ H s:=I.pins_of fun p hp=>I.pin p (v9 _ (G7 _ hp))
theorem fq {iter:Expr}{body:List Stmt}{wi:TI}{g:TG}{tb:TS}{pos:Pos} (hp:PassesOwn (r6 X.prog X.w) X.A X.env X.xe) (hc:X.calm=true) (hi:PI X tg iter wi) (hg:PG X tg g) (hb:rV X body tb)
  (hs:∀x,tf iter X.env x=pure x:=by intro _;rfl):PS X (.For tg iter body [] pos) (Ks wi g tb):=by
 intro pins s σ H D I h
 refine wpAny_For (W8 (hi pins s σ H _ I h) fun v s1 h1=>W8 h1 fun itv s2 h2=>?_) hs
 obtain ⟨it,fp,tn,J,H2,e,I2,T,st2,f2,W,⟨m0,w0⟩,turn⟩:=h2
 subst e
 have stat:∀{H':Hp},(∀b∈fp,H' b=none)->∀b∈fp,oj X pins H' b:=fun hn b hb=>⟨hn b hb,(f2 b hb).2⟩
 refine codeAny_forLoop_any (fun n s'=>∃i σ' H',C8 X pins σ' H' s'/\tn i s'.heap/\(∀b∈fp,H' b=none)/\W i n σ' H') ?_ m0 ⟨0,σ,H2,I2,st2,fun b hb=>(f2 b hb).1,w0⟩
 rintro n s3 ⟨i,σ3,H3,I3,st3,fr3,w3⟩
 rcases turn i n σ3 H3 w3 with ⟨stop,qn⟩|⟨go,N,hN,step⟩
 ·refine bj hp (W8 (T.done X rfl rfl rfl hc i pins s3 σ3 H3 X.xe I3 (stat fr3) st3 stop) fun r s4 ⟨hr,I4⟩=>?_)
  subst hr
  exact cZ ⟨σ3,H3,I4,qn⟩
 ·refine bj hp (W8 (T.item X rfl rfl rfl hc i pins s3 σ3 H3 X.xe I3 (stat fr3) st3 go) fun r s4 ⟨u,hr,h4⟩=>?_)
  subst hr
  refine bj hp (W8 h4 fun _ s5 ⟨x,H5,I5,r5,y5,st5,fr5⟩=>?_)
  have I5':=I5.pinned (stat fr5) (T.obj _ _ st5)
  refine bj hp (W8 (hg _ s5 σ3 H5 x u _ I5' r5 (step x H5 y5)) fun _ s6 ⟨σ6,H6,I6,q6⟩=>?_)
  refine bj hp (W8 (hb _ s6 σ6 H6 _ I6 q6) fun f s7 q7=>?_)
  have again:∀{σ7:St}{H7:Hp},C8 X (pins++ue fp s5.heap) σ7 H7 s7->N σ7 H7->∃m,m<n/\∃i σ' H',C8 X pins σ' H' s7/\tn i s7.heap/\(∀b∈fp,H' b=none)/\W i m σ' H':=fun {σ7 H7} I7 n7=>by
   obtain ⟨m',hm,w7⟩:=hN σ7 H7 n7
   refine ⟨m',hm,i+1,σ7,H7,I7.unpinned,T.keep _ _ _ st5 fun b hb o e=>(I7.pin (b,o) (v9 _ (v9 _ (cV hb e)))).1,fun b hb=>?_,w7⟩
   obtain ⟨o,e,d⟩:=T.obj _ _ st5 b hb
   exact (I7.pin (b,o) (v9 _ (v9 _ (cV hb e)))).2.1
  cases f with
  | next=>obtain ⟨σ7,H7,I7,n7⟩:=q7;exact again I7 n7
  | cont=>obtain ⟨σ7,H7,I7,n7⟩:=q7;exact again I7 n7
  | brk=>obtain ⟨σ7,H7,I7,q7⟩:=q7;exact ⟨σ7,H7,I7.unpinned,q7⟩
  | ret v=>obtain ⟨x7,σ7,H7,I7,r7,q7⟩:=q7;exact ⟨x7,σ7,H7,I7.unpinned,r7,q7⟩
end
variable {g:TG}{tb:TS}{D:qT}
theorem wm {xs:List V}(Pv:Nat->St->Hp->Prop) (h0:Pv 0 σ H) (hl:∀i σ H,i<=xs.length->Pv i σ H->dP K H a xs)
  (hs:∀i x σ H,xs[i]?=some x->Pv i σ H->g x σ H fun σ2 H2=>tb { D with nx:=Pv (i+1),ct:=Pv (i+1),bk:=D.nx } σ2 H2) (hd:∀σ H,Pv xs.length σ H->D.nx σ H):
  ∃W:Nat->Nat->St->Hp->Prop,(∃m,W 0 m σ H)/\∀i m σ H,W i m σ H ->
   ((JQ K a).stop i H/\D.nx σ H) ∨ ((JQ K a).go i H/\∃N:St->Hp->Prop,(∀σ' H',N σ' H'->∃m',m'<m/\W (i+1) m' σ' H')/\∀x H',(JQ K a).yld i H x H'->g x σ H' fun σ2 H2=>tb { D with nx:=N,ct:=N,bk:=D.nx } σ2 H2):=by
 refine ⟨fun i m σ H=>m=xs.length - i/\i<=xs.length/\Pv i σ H,⟨xs.length,by simp,v8 _,h0⟩,?_⟩
 rintro i m σ H ⟨rfl,hi,p⟩
 have q:=hl i σ H hi p
 by_cases hlt:i<xs.length
 ·refine .inr ⟨⟨xs,xs[i],q,by simp[hlt]⟩,Pv (i+1),fun σ' H' p'=>⟨xs.length - (i+1),by lia,rfl,hlt,p'⟩,fun x H' y=>?_⟩
  obtain ⟨e,y⟩:=y
  subst e
  exact hs i x σ _ (y xs q) p
 ·have e:i=xs.length:=by lia
  subst e
  exact .inl ⟨⟨xs,q,i6 _⟩,hd σ H p⟩
theorem FZ {xs:List V}(Pv:Nat->St->Hp->Prop) (h0:Pv 0 σ H) (hl:∀i σ H,i<=xs.length->Pv i σ H->dI K H a xs)
  (hs:∀i x σ H,xs[i]?=some x->Pv i σ H->g x σ H fun σ2 H2=>tb { D with nx:=Pv (i+1),ct:=Pv (i+1),bk:=D.nx } σ2 H2) (hd:∀σ H,Pv xs.length σ H->D.nx σ H):
  ∃W:Nat->Nat->St->Hp->Prop,(∃m,W 0 m σ H)/\∀i m σ H,W i m σ H ->
   ((JO K a).stop i H/\D.nx σ H) ∨ ((JO K a).go i H/\∃N:St->Hp->Prop,(∀σ' H',N σ' H'->∃m',m'<m/\W (i+1) m' σ' H')/\∀x H',(JO K a).yld i H x H'->g x σ H' fun σ2 H2=>tb { D with nx:=N,ct:=N,bk:=D.nx } σ2 H2):=by
 refine ⟨fun i m σ H=>m=xs.length - i/\i<=xs.length/\Pv i σ H,⟨xs.length,by simp,v8 _,h0⟩,?_⟩
 rintro i m σ H ⟨rfl,hi,p⟩
 have q:=hl i σ H hi p
 by_cases hlt:i<xs.length
 ·refine .inr ⟨⟨xs,xs[i],q,by simp[hlt]⟩,Pv (i+1),fun σ' H' p'=>⟨xs.length - (i+1),by lia,rfl,hlt,p'⟩,fun x H' y=>?_⟩
  obtain ⟨e,y⟩:=y
  subst e
  exact hs i x σ _ (y xs q) p
 ·have e:i=xs.length:=by lia
  subst e
  exact .inl ⟨⟨xs,q,i6 _⟩,hd σ H p⟩
theorem gx {lo:Int}{n:Nat}(Pv:Nat->St->Hp->Prop) (h0:Pv 0 σ H)
  (hs:∀i σ H,i<n->Pv i σ H->g (.int (lo+i)) σ H fun σ2 H2=>tb { D with nx:=Pv (i+1),ct:=Pv (i+1),bk:=D.nx } σ2 H2) (hd:∀σ H,Pv n σ H->D.nx σ H):
  ∃W:Nat->Nat->St->Hp->Prop,(∃m,W 0 m σ H)/\∀i m σ H,W i m σ H ->
   ((Jt lo n).stop i H/\D.nx σ H) ∨ ((Jt lo n).go i H/\∃N:St->Hp->Prop,(∀σ' H',N σ' H'->∃m',m'<m/\W (i+1) m' σ' H')/\∀x H',(Jt lo n).yld i H x H'->g x σ H' fun σ2 H2=>tb { D with nx:=N,ct:=N,bk:=D.nx } σ2 H2):=by
 refine ⟨fun i m σ H=>m=n - i/\i<=n/\Pv i σ H,⟨n,by simp,v8 _,h0⟩,?_⟩
 rintro i m σ H ⟨rfl,hi,p⟩
 by_cases hlt:i<n
 ·refine .inr ⟨hlt,Pv (i+1),fun σ' H' p'=>⟨n - (i+1),by lia,rfl,hlt,p'⟩,fun x H' y=>?_⟩
  obtain ⟨e,y⟩:=y
  subst e y
  exact hs i σ _ hlt p
 ·have e:i=n:=by lia
  subst e
  exact .inl ⟨i6 _,hd σ H p⟩
noncomputable abbrev R2:=V->V->Hp->VK->Prop
noncomputable def jQ (X:Cx) (f:b9->b9->Sem b9) (r:R2):Prop :=
 ∀(pins:List (Addr × Obj)) (s:d9) (σ:St) (H:Hp) (x y:V) (v u:b9) (Q:VK),C8 X pins σ H s->K2 x v->K2 y u->r x y H Q ->
  j6 (r6 X.prog X.w) X.A (f v u) (EP X pins σ Q) X.xe s
noncomputable def UnR (X:Cx) (f:b9->Sem b9) (r:V->Hp->VK->Prop):Prop :=
 ∀(pins:List (Addr × Obj)) (s:d9) (σ:St) (H:Hp) (x:V) (v:b9) (Q:VK),C8 X pins σ H s->K2 x v->r x H Q ->
  j6 (r6 X.prog X.w) X.A (f v) (EP X pins σ Q) X.xe s
noncomputable def bE (X:Cx) (f:b9) (r:List V->Hp->VK->Prop):Prop :=
 ∀(pins:List (Addr × Obj)) (s:d9) (σ:St) (H:Hp) (xs:List V) (us:List b9) (Q:VK),C8 X pins σ H s->K4 xs us->r xs H Q ->
  j6 (r6 X.prog X.w) X.A (call f us) (EP X pins σ Q) X.xe s
noncomputable def gQ (r:R2) (ta tb:TE):TE:=fun σ H Q=>ta σ H fun x H1=>tb σ H1 fun y H2=>r x y H2 Q
noncomputable def tUn (r:V->Hp->VK->Prop) (ta:TE):TE:=fun σ H Q=>ta σ H fun x H1=>r x H1 Q
noncomputable def rI (C:Int->Int->Prop) (g:Int->Int->V):R2:=fun x y H Q=>∃i j,x=.int i/\y=.int j/\C i j/\Q (g i j) H
noncomputable def vM (g:Int->Int->V):R2:=fun x y H Q=>∃i j,x=.int i/\y=.int j/\Q (g i j) H
noncomputable def rU (g:Int->V):V->Hp->VK->Prop:=fun x H Q=>∃i,x=.int i/\Q (g i) H
section
variable {X:Cx}{a b c:Expr}{ta tb tc:TE}{pos:Pos}
variable {f:b9->b9->Sem b9}
theorem Jm (ha:PE X a ta) (hb:PE X b tb) {pins:List (Addr × Obj)}{s:d9}{σ:St}{H:Hp}{R:V->V->Hp->Prop} (I:C8 X pins σ H s)
  (h:ta σ H fun x H1=>tb σ H1 fun y H2=>R x y H2) {Q:b9->d9->Prop}
  (hf:∀v u s2 x y H2,C8 X pins σ H2 s2->K2 x v->K2 y u->R x y H2->j6 (r6 X.prog X.w) X.A (f v u) Q X.xe s2):
  j6 (r6 X.prog X.w) X.A (eval a X.env) (fun v s₁=>j6 (r6 X.prog X.w) X.A (eval b X.env) (fun u s₂=>j6 (r6 X.prog X.w) X.A (f v u) Q X.xe s₂) X.xe s₁) X.xe s:=by
 refine W8 (ha pins s σ H _ I h) fun v s1 ⟨x,H1,I1,r1,q1⟩=>?_
 refine W8 (hb pins s1 σ H1 _ I1 q1) fun u s2 ⟨y,H2,I2,r2,q2⟩=>?_
 exact hf v u s2 x y H2 I2 r1 r2 q2
theorem B7 {op:Operator}{r:R2} (ho:jQ X (Y2 op) r) (ha:PE X a ta) (hb:PE X b tb):PE X (.BinOp a op b pos) (gQ r ta tb):=by
 intro pins s σ H Q I h
 exact wpAny_BinOp (Jm ha hb I h fun v u s2 x y H2 I2 rx ry q=>ho pins s2 σ H2 x y v u Q I2 rx ry q)
theorem GH {op:UnaryOp}{r:V->Hp->VK->Prop} (ho:UnR X (unaryOp op) r) (ha:PE X a ta):PE X (.UnaryOp op a pos) (tUn r ta):=by
 intro pins s σ H Q I h
 exact UnaryOp_ (W8 (ha pins s σ H _ I h) fun v s1 ⟨x,H1,I1,r1,q1⟩=>ho pins s1 σ H1 x v Q I1 r1 q1)
theorem JK {C:Int->Int->Prop}{g:Int->Int->Int}
  (rule:∀(i j:Int) (t u:Tok) (s:d9) (Q:b9->d9->Prop) (E:b9->d9->Prop),C i j->Q (.int (g i j) s.toks) { s with toks:=s.toks+1 }->j6 (r6 X.prog X.w) X.A (f (.int i t) (.int j u)) Q E s):
  jQ X f (rI C fun i j=>.int (g i j)):=by
 intro pins s σ H x y v u Q I rx ry h
 obtain ⟨i,j,rfl,rfl,hc,q⟩:=h
 obtain ⟨t,rfl⟩:=rx
 obtain ⟨t',rfl⟩:=ry
 exact rule i j t t' s _ _ hc ⟨.int (g i j),H,I.tok _,⟨_,rfl⟩,q⟩
theorem Lb {g:Int->Int->Int}
  (rule:∀(i j:Int) (t u:Tok) (s:d9) (Q:b9->d9->Prop) (E:b9->d9->Prop),Q (.int (g i j) s.toks) { s with toks:=s.toks+1 }->j6 (r6 X.prog X.w) X.A (f (.int i t) (.int j u)) Q E s):
  jQ X f (vM fun i j=>.int (g i j)):=by
 intro pins s σ H x y v u Q I rx ry h
 obtain ⟨i,j,rfl,rfl,q⟩:=h
 obtain ⟨t,rfl⟩:=rx
 obtain ⟨t',rfl⟩:=ry
 exact rule i j t t' s _ _ ⟨.int (g i j),H,I.tok _,⟨_,rfl⟩,q⟩
theorem FK {g:Int->Int->Bool}
  (rule:∀(i j:Int) (t u:Tok) (s:d9) (Q:b9->d9->Prop) (E:b9->d9->Prop),Q (.bool (g i j)) s->j6 (r6 X.prog X.w) X.A (f (.int i t) (.int j u)) Q E s):
  jQ X f (vM fun i j=>.bl (g i j)):=by
 intro pins s σ H x y v u Q I rx ry h
 obtain ⟨i,j,rfl,rfl,q⟩:=h
 obtain ⟨t,rfl⟩:=rx
 obtain ⟨t',rfl⟩:=ry
 exact rule i j t t' s _ _ ⟨.bl (g i j),H,I,rfl,q⟩
noncomputable def CDiv (i j:Int):Prop:=0<j/\j<1073741824
noncomputable def LK (i j:Int):Prop:=0<=j/\j<=1000000/\i.natAbs<2 ^ 64
noncomputable def Gm (i j:Int):Prop:=(-(2 ^ 64)<i/\i<2 ^ 64) ∨ (-(2 ^ 64)<j/\j<2 ^ 64)
theorem Gm.ok {i j:Int} (h:Gm i j):IntMulOk i j:=by
 rcases h with ⟨h1,h2⟩|⟨h1,h2⟩
 ·exact .of_left (intBits_le_64 h1 h2)
 ·exact .of_right (intBits_le_64 h1 h2)
theorem X8:jQ X (Y2 .Add) (vM fun i j=>.int (i+j)):=Lb fun _ _ _ _ _ _ _ q=>add_int q
theorem IE:jQ X (Y2 .Sub) (vM fun i j=>.int (i - j)):=Lb fun _ _ _ _ _ _ _ q=>sub_int q
theorem jh:jQ X (Y2 .Mult) (rI Gm fun i j=>.int (i*j)):=JK fun _ _ _ _ _ _ _ hc q=>mul_int q hc.ok
theorem zj:jQ X (Y2 .FloorDiv) (rI CDiv fun i j=>.int (i / j)):=JK fun i j _ _ _ _ _ hc q=>by
 have h1:(0:Int)<j:=hc.1
 have h2:j<1073741824:=hc.2
 exact floordiv_int (by lia) (by rw[vm i (by lia)];exact q) (.inl (PyProof.noPylong_small (by lia)))
theorem ic:jQ X (Y2 .Mod) (rI (fun _ j=>0<j) fun i j=>.int (i % j)):=JK fun i j _ _ _ _ _ hc q=>by
 have h1:(0:Int)<j:=hc
 exact mod_int' (by lia) (by rw[Int.fmod_eq_emod_of_nonneg i (by lia)];exact q)
theorem kD:jQ X (Y2 .Pow) (rI LK fun i j=>.int (i ^ j.toNat)):=JK fun _ _ _ _ _ _ _ hc q=>pow_int_small hc.1 hc.2.1 hc.2.2 q
theorem unI {f:b9->Sem b9}{g:Int->Int}
  (rule:∀(i:Int) (t:Tok) (s:d9) (Q:b9->d9->Prop) (E:b9->d9->Prop),Q (.int (g i) s.toks) { s with toks:=s.toks+1 }->j6 (r6 X.prog X.w) X.A (f (.int i t)) Q E s):
  UnR X f (rU fun i=>.int (g i)):=by
 intro pins s σ H x v Q I rx h
 obtain ⟨i,rfl,q⟩:=h
 obtain ⟨t,rfl⟩:=rx
 exact rule i t s _ _ ⟨.int (g i),H,I.tok _,⟨_,rfl⟩,q⟩
theorem Cu:UnR X (unaryOp .USub) (rU fun i=>.int (-i)):=unI fun _ _ _ _ _ q=>neg_int q
end
noncomputable def Ic:V->V->Bool
 | .non,.non=>true | .non,.int _=>true | .int _,.non=>true | .non,.bl _=>true | .bl _,.non=>true | .non,.str _=>true | .str _,.non=>true
 | .int _,.int _=>true | .bl _,.bl _=>true | .str _,.str _=>true | .byt _,.byt _=>true
 | .int _,.str _=>true | .str _,.int _=>true | .bl _,.str _=>true | .str _,.bl _=>true
 | _,_=>false
noncomputable def rEq:R2:=fun x y H Q=>Ic x y=true/\Q (.bl (decide (x=y))) H
noncomputable def rNe:R2:=fun x y H Q=>Ic x y=true/\Q (.bl (!decide (x=y))) H
theorem zN {i j:Int}:decide (V.int i=V.int j)=(i == j):=by
 rw[aK]
 simp
theorem Eh {i j:Bool}:decide (V.bl i=V.bl j)=(i == j):=by
 rw[aK]
 simp
theorem zM {i j:Str}:decide (V.str i=V.str j)=(i == j):=by
 rw[aK]
 simp
theorem zO {i j:Array UInt8}:decide (V.byt i=V.byt j)=(i.toList == j.toList):=by
 rw[aK]
 cases i
 cases j
 simp
section
variable {X:Cx}{a b c:Expr}{ta tb tc:TE}{pos:Pos}
theorem O9 {pins:List (Addr × Obj)}{σ:St}{H:Hp}{s:d9}{Q:VK}{k k':Bool} (I:C8 X pins σ H s) (q:Q (.bl k) H) (e:k=k'):EP X pins σ Q (.bool k') s:=by
 subst e
 exact ⟨.bl k,H,I,rfl,q⟩
theorem iz:jQ X (T6 .Eq) rEq:=by
 intro pins s σ H x y v u Q I rx ry h
 obtain ⟨hs,q⟩:=h
 cases x with
 | non =>
  cases rx
  cases y with
  | non=>cases ry;exact PySem.EqNone.eq_none_none (O9 I q (by simp))
  | bl j=>cases ry;exact PySem.EqNone.eq_none_bool (O9 I q (by simp))
  | int j=>obtain ⟨t',rfl⟩:=ry;exact PySem.EqNone.eq_none_int (O9 I q (by simp))
  | str j=>obtain ⟨t',rfl⟩:=ry;exact PySem.EqNone.eq_none_str (O9 I q (by simp))
  | _=>exact absurd (show false=true from hs) t7
 | bl i =>
  cases rx
  cases y with
  | non=>cases ry;exact PySem.EqNone.eq_bool_none (O9 I q (by simp))
  | bl j=>cases ry;exact eq_bool (O9 I q Eh)
  | str j=>obtain ⟨t',rfl⟩:=ry;exact PySem.EqMixed.eq_bool_str (O9 I q (by simp))
  | _=>exact absurd (show false=true from hs) t7
 | int i =>
  obtain ⟨t,rfl⟩:=rx
  cases y with
  | non=>cases ry;exact PySem.EqNone.eq_int_none (O9 I q (by simp))
  | int j=>obtain ⟨t',rfl⟩:=ry;exact eq_int (O9 I q zN)
  | str j=>obtain ⟨t',rfl⟩:=ry;exact PySem.EqMixed.eq_int_str (O9 I q (by simp))
  | _=>exact absurd (show false=true from hs) t7
 | str i =>
  obtain ⟨t,rfl⟩:=rx
  cases y with
  | non=>cases ry;exact PySem.EqNone.eq_str_none (O9 I q (by simp))
  | bl j=>cases ry;exact PySem.EqMixed.eq_str_bool (O9 I q (by simp))
  | int j=>obtain ⟨t',rfl⟩:=ry;exact PySem.EqMixed.eq_str_int (O9 I q (by simp))
  | str j=>obtain ⟨t',rfl⟩:=ry;exact eq_str (O9 I q zM)
  | _=>exact absurd (show false=true from hs) t7
 | byt i =>
  obtain ⟨t,rfl⟩:=rx
  cases y with
  | byt j=>obtain ⟨t',rfl⟩:=ry;exact W.eq_bytes (O9 I q zO)
  | _=>exact absurd (show false=true from hs) t7
 | _=>cases y <;> exact absurd (show false=true from hs) t7
theorem gq:jQ X (T6 .NotEq) rNe:=by
 intro pins s σ H x y v u Q I rx ry h
 obtain ⟨hs,q⟩:=h
 cases x with
 | non =>
  cases rx
  cases y with
  | non=>cases ry;exact PySem.EqNone.ne_none_none (O9 I q (by simp))
  | bl j=>cases ry;exact PySem.EqNone.ne_none_bool (O9 I q (by simp))
  | int j=>obtain ⟨t',rfl⟩:=ry;exact PySem.EqNone.ne_none_int (O9 I q (by simp))
  | str j=>obtain ⟨t',rfl⟩:=ry;exact PySem.EqNone.ne_none_str (O9 I q (by simp))
  | _=>exact absurd (show false=true from hs) t7
 | bl i =>
  cases rx
  cases y with
  | non=>cases ry;exact PySem.EqNone.ne_bool_none (O9 I q (by simp))
  | bl j=>cases ry;exact ne_bool (O9 I q (congrArg not Eh))
  | str j=>obtain ⟨t',rfl⟩:=ry;exact PySem.EqMixed.ne_bool_str (O9 I q (by simp))
  | _=>exact absurd (show false=true from hs) t7
 | int i =>
  obtain ⟨t,rfl⟩:=rx
  cases y with
  | non=>cases ry;exact PySem.EqNone.ne_int_none (O9 I q (by simp))
  | int j=>obtain ⟨t',rfl⟩:=ry;exact ne_int (O9 I q (congrArg not zN))
  | str j=>obtain ⟨t',rfl⟩:=ry;exact PySem.EqMixed.ne_int_str (O9 I q (by simp))
  | _=>exact absurd (show false=true from hs) t7
 | str i =>
  obtain ⟨t,rfl⟩:=rx
  cases y with
  | non=>cases ry;exact PySem.EqNone.ne_str_none (O9 I q (by simp))
  | bl j=>cases ry;exact PySem.EqMixed.ne_str_bool (O9 I q (by simp))
  | int j=>obtain ⟨t',rfl⟩:=ry;exact PySem.EqMixed.ne_str_int (O9 I q (by simp))
  | str j=>obtain ⟨t',rfl⟩:=ry;exact ne_str (O9 I q (congrArg not zM))
  | _=>exact absurd (show false=true from hs) t7
 | byt i =>
  obtain ⟨t,rfl⟩:=rx
  cases y with
  | byt j=>obtain ⟨t',rfl⟩:=ry;exact W.ne_bytes (O9 I q (congrArg not zO))
  | _=>exact absurd (show false=true from hs) t7
 | _=>cases y <;> exact absurd (show false=true from hs) t7
theorem KZ:jQ X (T6 .Lt) (vM fun i j=>.bl (decide (i<j))):=FK fun _ _ _ _ _ _ _ q=>lt_int q
theorem jW:jQ X (T6 .LtE) (vM fun i j=>.bl (decide (i<=j))):=FK fun _ _ _ _ _ _ _ q=>le_int q
theorem zi:jQ X (T6 .Gt) (vM fun i j=>.bl (decide (j<i))):=FK fun _ _ _ _ _ _ _ q=>gt_int q
theorem La:jQ X (T6 .GtE) (vM fun i j=>.bl (decide (j<=i))):=FK fun _ _ _ _ _ _ _ q=>ge_int q
variable {op:EL}
theorem N6 (b:Expr) (h:op≠.In:=by decide) (h2:op≠.NotIn:=by decide):cO op b=false:=by
 have e1:(op == CmpOp.In)=false:=by cases op <;> first|rfl|exact absurd rfl h
 have e2:(op == LY)=false:=by cases op <;> first|rfl|exact absurd rfl h2
 cases b <;> simp[cO,e1,e2]
variable {r:R2}
theorem eF (ho:jQ X (T6 op) r) (ha:PE X a ta) (hb:PE X b tb) (hm:cO op b=false):PE X (.Compare a [op] [b] pos) (gQ r ta tb):=by
 intro pins s σ H Q I h
 exact wpAny_Compare1 (Jm ha hb I h fun v u s2 x y H2 I2 rx ry q=>ho pins s2 σ H2 x y v u Q I2 rx ry q) hm
noncomputable def GC (t:TE):TT:=fun σ H Q=>t σ H fun x H'=>∃k,x=.bl k/\Q k H'
theorem P0 {op:EL}{r:R2} (ho:jQ X (T6 op) r) (ha:PE X a ta) (hb:PE X b tb) (hm:cO op b=false):PT X (.Compare a [op] [b] pos) (GC (gQ r ta tb)):=by
 intro pins s σ H Q I h
 refine Gp (W8 (ha pins s σ H _ I h) fun v s1 ⟨x,H1,I1,r1,q1⟩=>W8 (hb pins s1 σ H1 _ I1 q1) fun u s2 ⟨y,H2,I2,r2,q2⟩ =>
  W8 (ho pins s2 σ H2 x y v u _ I2 r1 r2 q2) fun c s3 ⟨z,H3,I3,r3,k,e,q3⟩=>?_) hm
 subst e
 cases r3
 exact S8 ⟨H3,I3,q3⟩
noncomputable def xF (r r':R2) (ta tb tc:TE):TE:=fun σ H Q=>ta σ H fun x H1=>tb σ H1 fun y H2=>r x y H2 fun z H3=>∃k,z=.bl k /\
 (if k=true then tc σ H3 fun w' H4=>r' y w' H4 Q else Q (.bl false) H3)
theorem lh {op':EL}{r':R2} (ho:jQ X (T6 op) r) (ho':jQ X (T6 op') r') (ha:PE X a ta) (hb:PE X b tb) (hc:PE X c tc)
  (hm:lastMarks [op,op'] [b,c]=false:=by with_unfolding_all rfl):PE X (.Compare a [op,op'] [b,c] pos) (xF r r' ta tb tc):=by
 intro pins s σ H Q I h
 refine Compare_chain (W8 (ha pins s σ H _ I h) fun v s1 ⟨x,H1,I1,r1,q1⟩=>chain_link (W8 (hb pins s1 σ H1 _ I1 q1) fun u s2 ⟨y,H2,I2,r2,q2⟩ =>
  W8 (ho pins s2 σ H2 x y v u _ I2 r1 r2 q2) fun d s3 ⟨z,H3,I3,r3,k,e,q3⟩=>?_)) hm
 subst e
 cases r3
 refine S8 ?_
 cases k with
 | false=>exact ite_ff ⟨.bl false,H3,I3,rfl,q3⟩
 | true=>exact ite_tt (chain_last (W8 (hc pins s3 σ H3 _ I3 q3) fun w' s4 ⟨z',H4,I4,r4,q4⟩=>ho' pins s4 σ H4 y z' u w' Q I4 r2 r4 q4))
theorem CV {op':EL}{r':R2} (ho:jQ X (T6 op) r) (ho':jQ X (T6 op') r') (ha:PE X a ta) (hb:PE X b tb) (hc:PE X c tc)
  (hm:lastMarks [op,op'] [b,c]=false:=by with_unfolding_all rfl):PT X (.Compare a [op,op'] [b,c] pos) (GC (xF r r' ta tb tc)):=by
 intro pins s σ H Q I h
 refine isTrue_chain (W8 (ha pins s σ H _ I h) fun v s1 ⟨x,H1,I1,r1,q1⟩=>test_link (W8 (hb pins s1 σ H1 _ I1 q1) fun u s2 ⟨y,H2,I2,r2,q2⟩ =>
  W8 (ho pins s2 σ H2 x y v u _ I2 r1 r2 q2) fun d s3 ⟨z,H3,I3,r3,k,e,q3⟩=>?_)) hm
 subst e
 cases r3
 refine S8 ?_
 cases k with
 | false =>
  obtain ⟨k',e',q'⟩:=q3
  cases e'
  exact ite_ff ⟨H3,I3,q'⟩
 | true =>
  refine ite_tt (test_last (W8 (hc pins s3 σ H3 _ I3 q3) fun w' s4 ⟨z',H4,I4,r4,q4⟩=>W8 (ho' pins s4 σ H4 y z' u w' _ I4 r2 r4 q4) fun d' s5 ⟨z2,H5,I5,r5,k2,e2,q5⟩=>?_))
  subst e2
  cases r5
  exact S8 ⟨H5,I5,q5⟩
theorem uo:(i0:Nat)<2 ^ 63:=by rw[X6];decide
theorem kU {x:V}{us:List b9} (r:K4 [x] us):∃u,us=[u]/\K2 x u:=by
 cases r with
 | cons r1 r2=>cases r2;exact ⟨_,rfl,r1⟩
theorem GA {x y:V}{us:List b9} (r:K4 [x,y] us):∃u w',us=[u,w']/\K2 x u/\K2 y w':=by
 cases r with
 | cons r1 r2 =>
  cases r2 with
  | cons r3 r4=>cases r4;exact ⟨_,_,rfl,r1,r3⟩
theorem wL:bE X (.builtin "abs") (fun xs H Q=>∃i,xs=[.int i]/\Q (.int (if i<0 then -i else i)) H):=by
 intro pins s σ H xs us Q I r h
 obtain ⟨i,rfl,q⟩:=h
 obtain ⟨u,rfl,t,rfl⟩:=kU r
 exact call_abs_int fun u tk=>⟨.int (if i<0 then -i else i),H,I.tok _,⟨_,rfl⟩,q⟩
theorem Bl (hc:X.calm=true):bE X (.builtin "max") (fun xs H Q=>∃i j,xs=[.int i,.int j]/\Q (.int (if j > i then j else i)) H):=by
 intro pins s σ H xs us Q I r h
 obtain ⟨i,j,rfl,q⟩:=h
 obtain ⟨u,w',rfl,⟨t,rfl⟩,⟨t',rfl⟩⟩:=GA r
 refine max_two_ints (I.ok.hd hc) fun h' tk k=>⟨_,H,I.kept k,?_,q⟩
 by_cases hj:j > i
 ·rw[if_pos hj,if_pos hj];exact ⟨_,rfl⟩
 ·rw[if_neg hj,if_neg hj];exact ⟨_,rfl⟩
theorem Bk (hc:X.calm=true):bE X (.builtin "min") (fun xs H Q=>∃i j,xs=[.int i,.int j]/\Q (.int (if j<i then j else i)) H):=by
 intro pins s σ H xs us Q I r h
 obtain ⟨i,j,rfl,q⟩:=h
 obtain ⟨u,w',rfl,⟨t,rfl⟩,⟨t',rfl⟩⟩:=GA r
 refine min_two_ints (I.ok.hd hc) fun h' tk k=>⟨_,H,I.kept k,?_,q⟩
 by_cases hj:j<i
 ·rw[if_pos hj,if_pos hj];exact ⟨_,rfl⟩
 ·rw[if_neg hj,if_neg hj];exact ⟨_,rfl⟩
theorem mS:bE X (.type "int") (fun xs H Q=>(∃i,xs=[.int i]/\Q (.int i) H) ∨ ∃k,xs=[.bl k]/\Q (.int (if k then 1 else 0)) H):=by
 intro pins s σ H xs us Q I r h
 rcases h with ⟨i,rfl,q⟩|⟨k,rfl,q⟩
 ·obtain ⟨u,rfl,t,rfl⟩:=kU r
  exact call_int_int ⟨.int i,H,I,⟨_,rfl⟩,q⟩
 ·obtain ⟨u,rfl,r1⟩:=kU r
  cases r1
  exact call_int_bool ⟨.int (if k then 1 else 0),H,I.tok _,⟨_,rfl⟩,q⟩
end
structure Jr (h:Heap) (x dx C:Addr) (mA:Str->Option b9):Prop where
 obj:h.get? x=some (JX C dx)
 ns:h.Ns1 dx mA
 ne:dx≠x
theorem AO {dx:Addr}{mA:Str->Option b9} (n:h.Ns1 dx mA):∃od,h.get? dx=some od/\∀name,Mo name od=some (mA name):=by
 obtain ⟨o,es,ep,ho,hd,hk,_,hm⟩:=n
 refine ⟨o,ho,fun name=>?_⟩
 have e:=hm name
 unfold nsFind findBy at e
 rw[<- Array.find?_toList] at e
 unfold Mo
 rw[hd]
 dsimp only
 split
 ·rename_i y q
  rw[q] at e
  exact congrArg some e
 ·rename_i q
  rw[q] at e
  have a:es.toList.any (·.refKey)=false:=by
   rw[List.any_eq_false]
   intro y hy
   obtain ⟨z,t,hkey⟩:=hk y (Array.mem_toList_iff.mp hy)
   simp[DictEntry.refKey,hkey]
  have a':¬ es.toList.any (·.refKey)=true:=by rw[a];exact t7
  rw[if_neg a']
  exact congrArg some e
theorem Jr.look {x dx C:Addr}{mA:Str->Option b9} (I:Jr h x dx C mA):∃od,Mp h x (JX C dx) C (some od)/\∀name,Mo name od=some (mA name):=
 let ⟨od,ho,hl⟩:=AO I.ns
 ⟨od,⟨I.obj,rfl,rfl,ho⟩,hl⟩
section
variable {prog:j7}{w:u9}{A:A8}{E:b9->d9->Prop}{s:d9}{K:m6}{x dx C f:Addr}{mA:Str->Option b9}{name:Str}{v:b9}
end
theorem mW.some_of {v:V}{o:Option b9} (r:mW (some v) o):∃u,o=some u/\K2 v u:=by
 cases o with
 | none=>exact (show False from r).elim
 | some u=>exact ⟨u,rfl,r⟩
section
variable {P:j7}{w:u9}{H H':Hp}{h h':Heap}{a C dx:Addr}{fs fs':List (Str × V)}
theorem FW (hok:cG P w H h) (e:H a=some (.ins C dx fs)):∃mA,Jr h a dx C mA/\(∀f,mW (fs.lookup f) (mA f))/\Kb mA (fs.map (·.1))/\fs.length<=1000/\H dx=some (.own a):=by
 obtain ⟨d,z,ne,ob,mA,n,r,q⟩:=(show M9 P w H h a (.ins C dx fs) from hok a _ e)
 exact ⟨mA,⟨ob,n,ne⟩,r,q,z,d⟩
end
structure Cls (K:m6) (C:Addr):Prop where
 pg:W.plainGet K C Str.empty=true
 hd:W.hasDictIn K C=true
 po:W.plainOver K C=true
 sa:X7 K (.ref C) "__setattr__"=some (some (.builtin "object.__setattr__"))
theorem Cls.get {C:Addr} (c:Cls K C) (f:Str):W.plainGet K C f=true:=c.pg
structure Con (K:m6) (C:Addr) (f:Str) (v:V) (u:b9):Prop where
 at_:X7 K (.ref C) f=some (some u)
 rel:K2 v u
 get:lT K u "__get__"=some none
 cp:W.copiedNames.contains f=false
structure Meth (K:m6) (C:Addr) (m:Str) (f:Addr):Prop where
 at_:X7 K (.ref C) m=some (some (.ref f))
 fn:W.isFn K (.ref f)=true
 kp:cJ K (.ref f)=true
section
variable {X:Cx}{pins:List (Addr × Obj)}{σ:St}{H:Hp}{s:d9}{a C dx:Addr}{fs:List (Str × V)}{f:Str}{v:V}{A:A8}{E:b9->d9->Prop}
end
section
variable {X:Cx}{o e value:Expr}{f:Str}{pos pos' tpos:Pos}{ta tv:TE}
end
section
variable {X:Cx}{pins:List (Addr × Obj)}{σ:St}{H:Hp}{s:d9}{A:A8}{E:b9->d9->Prop}{Q:b9->d9->Prop}{c:b9}{b:Bool}
inductive mT (K:m6) (H:Hp):V->b9->Prop where
 | non:mT K H .non (.type "NoneType")
 | bl (x:Bool):mT K H (.bl x) (.type "bool")
 | int (i:Int):mT K H (.int i) (.type "int")
 | str (x:Str):mT K H (.str x) (.type "str")
 | flt (x:UInt64):mT K H (.flt x) (.type "float")
 | lst {a:Addr}{xs:List V} (e:H a=some (.lst xs)):mT K H (.ref a) (.type "list")
 | frz {a:Addr}{o:Obj}{xs:List V} (e:H a=some (.frz o (.lst xs))):mT K H (.ref a) (.type "list")
 | tup {a:Addr}{xs:List V} (e:H a=some (.tup xs)):mT K H (.ref a) (.type "tuple")
 | dK {a:Addr}{kvs:List (S6 × V)} (e:H a=some (.dK kvs)):mT K H (.ref a) (.type "dict")
 | dT {a:Addr}{kvs:List (List S6 × V)} (e:H a=some (.dT kvs)):mT K H (.ref a) (.type "dict")
 | ins {a C dx:Addr}{fs:List (Str × V)} (e:H a=some (.ins C dx fs)) (cl:Cls K C) (ha:X7 K (.ref C) "__class__"=some (some (.builtin "object.__class__")))
   (hn:lT K (.builtin "object.__class__") "__get__"=some (some (.builtin "getset_descriptor.__get__"))) (htk:Bw K (.builtin "object.__class__")=some true)
   (hm:Jx K C (.type "object")=some true):mT K H (.ref a) (.ref C)
theorem AY {x:V}{u t:b9} (I:C8 X pins σ H s) (rx:K2 x u) (ty:mT X.K H x t) (e:cI X.K t c=some b) (h:∀tk,Q (.bool b) { s with toks:=tk }):
  j6 (r6 X.prog X.w) A (call (.builtin "isinstance") [u,c]) Q E s:=by
 cases ty with
 | non=>cases (show u=B5 from rx);exact bg Fb I.kIn R6 e (fun z=>nomatch z) h
 | bl y=>cases (show u=R1 y from rx);exact bg W.kitx_bool I.kIn R6 e (fun z=>nomatch z) h
 | int i=>obtain ⟨t,q⟩:=(show ∃t,u=oU i t from rx);cases q;exact bg Hq I.kIn R6 e (fun z=>nomatch z) h
 | str y=>obtain ⟨t,q⟩:=(show ∃t,u=xf y t from rx);cases q;exact bg W.kitx_str I.kIn R6 e (fun z=>nomatch z) h
 | flt y=>obtain ⟨t,q⟩:=(show ∃t,u=LV y t from rx);cases q;exact bg W.kitx_float I.kIn R6 e (fun z=>nomatch z) h
 | @lst a xs ea =>
  cases (show u=n5 a from rx)
  obtain ⟨_,_,n,_,h1⟩:=(show M9 X.prog X.w H s.heap a (.lst xs) from I.hok a _ ea)
  exact bg Fc I.kIn ⟨_,h1,rfl⟩ e (fun z=>nomatch z) h
 | @frz a ob xs ea =>
  cases (show u=n5 a from rx)
  obtain ⟨_,_,_,n,_,h1⟩:=(show M9 X.prog X.w H s.heap a (.frz ob (.lst xs)) from I.hok a _ ea)
  exact bg Fc I.kIn ⟨_,h1,rfl⟩ e (fun z=>nomatch z) h
 | @tup a xs ea =>
  cases (show u=n5 a from rx)
  obtain ⟨_,_,_,p⟩:=(show M9 X.prog X.w H s.heap a (.tup xs) from I.hok a _ ea)
  obtain ⟨o,h1,h2,_⟩:=p
  exact bg BO I.kIn ⟨o,h1,h2⟩ e (fun z=>nomatch z) h
 | @dK a kvs ea =>
  cases (show u=n5 a from rx)
  obtain ⟨_,_,vs,_,p⟩:=(show M9 X.prog X.w H s.heap a (.dK kvs) from I.hok a _ ea)
  obtain ⟨o,es,ep,h1,h2,_⟩:=p
  exact bg W.kitx_dict I.kIn ⟨o,h1,h2.1⟩ e (fun z=>nomatch z) h
 | @dT a kvs ea =>
  cases (show u=n5 a from rx)
  obtain ⟨_,_,xs,_,o,es,ep,h1,h2,_⟩:=(show M9 X.prog X.w H s.heap a (.dT kvs) from I.hok a _ ea)
  exact bg W.kitx_dict I.kIn ⟨o,h1,h2.1⟩ e (fun z=>nomatch z) h
 | @ins a C dx fs ea cl ha hn htk hm =>
  cases (show u=n5 a from rx)
  obtain ⟨mA,O,_⟩:=FW I.hok ea
  obtain ⟨od,J,_⟩:=O.look
  exact bg (W.kitx_own (cl.get _) cl.hd ha hn htk hm) I.kIn J e (fun z=>nomatch z) h
end
structure cK (k:Nat) (A:A8):Prop where
 hd:A.handled=none
 dp:A.depth+3*k+5<recursionLimit
 un:A.units+16*k+200<fA
theorem cK.mono {j k:Nat}(r:cK k A) (h:j<=k):cK j A:=⟨r.hd,by have:=r.dp;lia,by have:=r.un;lia⟩
theorem cK.deeper {k:Nat}{A:A8} (r:cK (k+1) A) (env:Env):cK k (A.deeper env):=
 ⟨r.hd,by have:=r.dp;show A.depth+1+3*k+5<_;lia,by have:=r.un;show A.units+3+16*k+200<_;lia⟩
theorem cK.depth {k:Nat}{A:A8} (r:cK k A):A.depth<recursionLimit:=by have:=r.dp;lia
theorem cK.units {k:Nat}{A:A8} (r:cK k A):A.units+64<fA:=by have:=r.un;lia
noncomputable def pA:TA:=fun _ H Q=>Q [] H
noncomputable def fi (ta:TE) (tr:TA):TA:=fun σ H Q=>ta σ H fun x H1=>tr σ H1 fun xs H2=>Q (x::xs) H2
section
variable {X:Cx}{e:Expr}{es:List Expr}{te:TE}{t:TA}{pos:Pos}
theorem f6:PA X [] pA:=fun _ _ _ _ H Q I h=>EM ⟨[],H,I,.nil,h⟩
theorem b8 (ha:PE X e te) (hr:PA X es t) (hs:A4 (e::es) X.env=(false,eval e X.env)::A4 es X.env:=by rfl):PA X (e::es) (fi te t):=by
 intro pos pins s σ H Q I h
 rw[hs]
 show j6 _ _ (spliced ((false,eval e X.env)::aW pos (A4 es X.env))) _ _ s
 refine lW (W8 (ha pins s σ H _ I h) fun u s1 ⟨x,H1,I1,r1,q1⟩=>?_)
 exact W8 (hr pos pins s1 σ H1 _ I1 q1) fun us s2 ⟨xs,H2,I2,r2,q2⟩=>⟨x::xs,H2,I2,.cons r1 r2,q2⟩
noncomputable def vB (t:TA):TE:=fun σ H Q=>t σ H fun xs H1=>xs.length<=i0/\∀p,H1 p=none->Q (.ref p) (n8 H1 p (.tup xs))
noncomputable def Kr (t:TA):TE:=fun σ H Q=>t σ H fun xs H1=>xs.length<=i0/\∀p,H1 p=none->Q (.ref p) (n8 H1 p (.lst xs))
theorem C7 {x1} (h:PA X es t):PE X (.Tuple es x1 pos) (vB t):=by
 intro pins s σ H Q I hq
 refine wpAny_Tuple_spliced (W8 (h pos pins s σ H _ I hq) fun us s1 ⟨xs,H1,I1,r,z,q⟩=>⟨by rw[<- r.length];exact z,?_⟩)
 have hf:H1 s1.heap.objs.size=none:=I1.hok.fresh (i6 _)
 refine ⟨.ref s1.heap.objs.size,n8 H1 s1.heap.objs.size (.tup xs),I1.laid (t':=s1.toks) (fun b u e=>d7 _ e) (i6 _) ?_,rfl,q _ hf⟩
 exact ⟨z,us,r,⟨_,j9 _ rfl,rfl,_,rfl⟩⟩
theorem S3 (h:PA X es t):PE X (.List es pos) (Kr t):=by
 intro pins s σ H Q I hq
 refine wpAny_List_spliced (W8 (h pos pins s σ H _ I hq) fun us s1 ⟨xs,H1,I1,r,z,q⟩=>⟨by rw[<- r.length];exact z,?_⟩)
 have hf:H1 s1.heap.objs.size=none:=I1.hok.fresh (i6 _)
 refine ⟨.ref s1.heap.objs.size,n8 H1 s1.heap.objs.size (.lst xs),I1.laid (t':=s1.toks) (fun b u e=>d7 _ e) (i6 _) ?_,rfl,q _ hf⟩
 exact ⟨z,us,0,r,j9 _ rfl⟩
end
noncomputable abbrev Sp:=List V->Hp->VK->XK->Prop
noncomputable abbrev Ad:=List Env->Hp->d9->XK->b9->d9->Prop
structure Ez (P:j7) (w:u9) (K:m6) (mg:Str->Option b9) (base:Heap) (A:A8) (outer:List Env) (s:d9) (H:Hp):Prop where
 frames:A.frames=some outer
 mod:Mod K mg base
 bs:∀b o,base.get? b=some o->s.heap.get? b=some o/\H b=none
 bsz:base.objs.size<=s.heap.objs.size
 funs:s.heap.FunFrames base outer
 frf:∀b∈lG outer,H b=none
 hok:cG P w H s.heap
 bare:ju s.gens
noncomputable def CE (outer:List Env) (P:j7) (w:u9) (H:Hp) (s:d9) (Q:VK) (u:b9) (s':d9):Prop :=
 ∃v H',s'.os=s.os/\ju s'.gens/\Un (lG outer) [] H H' s.heap s'.heap/\cG P w H' s'.heap/\K2 v u/\Q v H'
noncomputable def CR (CX:Ad) (outer:List Env) (P:j7) (w:u9) (H:Hp) (s:d9) (Q:VK) (E:XK) (r:Fd) (s':d9):Prop :=
 match r with
 | .ok (.ret u)=>CE outer P w H s Q u s'
 | .ok _=>False
 | .error e=>CX outer H s E e s'
structure O5 (P:j7) (w:u9) (K:m6) (mg:Str->Option b9) (base:Heap) (CX:Ad) (k:Nat) (f:Addr) (fd:C5) (ps:List Str) (sp:Sp):Prop where
 len:∀vs H Q E,sp vs H Q E->vs.length=ps.length
 run:∀(A:A8) (outer:List Env) (s:d9) (H:Hp) (args:Args) (us:List b9) (vs:List V) (Q:VK) (E:XK),cK k A->Ez P w K mg base A outer s H->tF s fd args (ps.zip us)->K4 vs us->sp vs H Q E ->
  dc (r6 P w) A (.call (.ref f) args) (CR CX outer P w H s Q E) s
theorem O5.mono {P:j7}{w:u9}{K:m6}{mg:Str->Option b9}{base:Heap}{CX:Ad}{j k:Nat}{f:Addr}{fd:C5}{ps:List Str}{sp:Sp} (F:O5 P w K mg base CX j f fd ps sp) (h:j<=k):
  O5 P w K mg base CX k f fd ps sp:=⟨F.len,fun A outer s H args us vs Q E hr=>F.run A outer s H args us vs Q E (hr.mono h)⟩
section
variable {X:Cx}{pins:List (Addr × Obj)}{σ:St}{H:Hp}{s s':d9}
theorem C8.env0 (I:C8 X pins σ H s):Ez X.prog X.w X.K X.mg X.base X.A X.stack s H :=
 ⟨I.ok.frames,I.ok.mod,I.bs,j0 I.ok.bsz I.sz,I.stack,I.stkFree,I.hok,I.bare⟩
theorem C8.after {Q:VK}{u:b9} (I:C8 X pins σ H s) (h:CE X.stack X.prog X.w H s Q u s'):EP X pins σ Q u s':=by
 obtain ⟨v,H',os,bare,un,hok,r,q⟩:=h
 obtain ⟨hh,g,d,t,os'⟩:=s'
 obtain rfl:os'=s.os:=os
 exact ⟨v,H',I.call (h':=hh) (g':=g) (d':=d) (t':=t) (ch:=[]) un hok bare (fun b z=>absurd z (by simp)),r,q⟩
end
noncomputable def Cy (sp:Sp) (dvs:List V) (E:XK) (t:TA):TE:=fun σ H Q=>t σ H fun vs H1=>sp (vs++dvs) H1 Q E
noncomputable def jY (K:m6) (fd:C5) (ps:List Str) (ds:List b9):Prop :=
 ∀(s:d9) (us:List b9),K.In s.heap->(us++ds).length=ps.length->tF s fd ⟨us,[]⟩ (ps.zip (us++ds))
variable {ps:List Str}
theorem jY.all {fd:C5}(h:∀us:List b9,us.length=ps.length->Aj fd ⟨us,[]⟩=pure (ps.zip us)):jY K fd ps []:=fun s us _ hl=>by
 rw[V5] at hl ⊢
 exact .of_eq (h us hl)
noncomputable def kG (CX:Ad) (X:Cx) (E:XK):Prop:=∀(pins:List (Addr × Obj)) (σ:St) (H:Hp) (s:d9) (e:b9) (s':d9),C8 X pins σ H s->CX X.stack H s E e s'->X.xe e s'
section
variable {X:Cx}{CX:Ad}{k:Nat}{f C:Addr}{fd:C5}{ps:List Str}{sp:Sp}{dvs:List V}{ds:List b9}{E:XK}{x m:Str}{p pos apos:Pos}{e o:Expr}{es:List Expr}{ta:TE}{t:TA}
theorem Iq {pins:List (Addr × Obj)}{σ:St}{H:Hp}{s:d9}{Q:VK}{us:List b9}{vs:List V} (F:O5 X.prog X.w X.K X.mg X.base CX k f fd ps sp) (hr:cK k X.A) (hb:jY X.K fd ps ds) (hd:K4 dvs ds) (hx:kG CX X E)
  (I:C8 X pins σ H s) (r:K4 vs us) (h:sp (vs++dvs) H Q E):j6 (r6 X.prog X.w) X.A (call (.ref f) us) (EP X pins σ Q) X.xe s:=by
 have r2:K4 (vs++dvs) (us++ds):=r.append hd
 have hl:(us++ds).length=ps.length:=by rw[<- r2.length];exact F.len _ _ _ _ h
 refine rn (gJ (F.run X.A X.stack s H ⟨us,[]⟩ (us++ds) (vs++dvs) Q E hr I.env0 (hb s us I.kIn hl) r2 h) fun r s' hq=>?_)
 cases r with
 | error e=>exact hx pins σ H s e s' I hq
 | ok fl =>
  cases fl with
  | ret u=>exact I.after hq
  | next=>exact F7 hq
  | brk=>exact F7 hq
  | cont=>exact F7 hq
theorem zh (F:O5 X.prog X.w X.K X.mg X.base CX k f fd ps sp) (hr:cK k X.A) (hg:Gl X x) (hm:X.mg x=some (.ref f)) (hk:cJ X.K (.ref f)=true) (hb:jY X.K fd ps ds) (hd:K4 dvs ds) (hx:kG CX X E)
  (ha:PA X (e::es) t) (hdb:(x == ("__debug__":Str))=false:=by decide) (he:A4 (e::es) X.env=(false,eval e X.env)::A4 es X.env:=by rfl) (hpl:(aW pos (A4 es X.env)).any (·.1)=false:=by rfl):
  PE X (.Call (.Name x p) (e::es) [] pos) (Cy sp dvs E t):=by
 intro pins s σ H Q I h
 refine dq (lA I hg hm ?_ hdb)
 refine W.callWith_K (h₀:=X.base) I.ok.mod.kin hk (W8 (ha pos pins s σ H _ I h) fun us s1 ⟨vs,H1,I1,r,q⟩=>⟨I1.kIn,?_⟩) he hpl
 exact Iq F hr hb hd hx I1 r q
structure Mk (K:m6) (C f:Addr):Prop where
 makes:W.makesIn K C=true
 init:X7 K (.ref C) "__init__"=some (some (.ref f))
 fn:W.isFn K (.ref f)=true
 kp:cJ K (.ref C)=true
end
section
variable {X:Cx}{CX:Ad}{k:Nat}{f C:Addr}{fd:C5}{ps ks:List Str}{sp:Sp}{E:XK}{x m:Str}{p pos apos kpos:Pos}{e o:Expr}{es:List Expr}{kws:List oq}{te ta:TE}{t tk:TA}{nm:Option Str}
structure KBinds (K:m6) (fd:C5) (ps ks:List Str) (g:List b9->List b9->List b9) (gV:List V->List V->List V):Prop where
 to:∀(s:d9) (us ws:List b9),K.In s.heap->(g us ws).length=ps.length->tF s fd ⟨us,ks.zip ws⟩ (ps.zip (g us ws))
 rel:∀{vs:List V}{us:List b9}{zs:List V}{ws:List b9},K4 vs us->K4 zs ws->K4 (gV vs zs) (g us ws)
variable {g:List b9->List b9->List b9}{gV:List V->List V->List V}
end
structure D8 (N P:List Str) (sc:T5):Prop where
 kind:sc.kind=.function
 co:sc.isCoroutine=false
 gen:sc.isGenerator=false
 nd:N.Nodup
 pre:N.take P.length=P
 par:∀x∈P,sc.names.lookup x=some .local ∨ sc.names.lookup x=some .cell
 nofree:∀y∈sc.names,y.2≠.free
theorem sO {kindOf:Str->Option aD}{x:Str}:∀{binds:List (Str × b9)}{m:Str->Option b9},(∀v,(x,v) ∉ binds)->EE kindOf binds m x=m x
 | [],_,_=>rfl
 | (n,v)::r,m,h=>by
  unfold EE
  rw[sO fun w hw=>h w (i3 _ hw)]
  split
  ·have:x≠n:=by rintro rfl;exact h v i4
   simp[this]
  ·rfl
theorem sQ {kindOf:Str->Option aD}{x:Str}:∀{binds:List (Str × b9)}{m:Str->Option b9},(∀v,(x,v) ∉ binds)->EF kindOf binds m x=m x
 | [],_,_=>rfl
 | (n,v)::r,m,h=>by
  unfold EF
  rw[sQ fun w hw=>h w (i3 _ hw)]
  split
  ·rfl
  ·have:x≠n:=by rintro rfl;exact h v i4
   simp[this]
theorem sP {kindOf:Str->Option aD}{x:Str}{v:b9}:∀{P:List Str}{vs:List b9}{i:Nat}{m:Str->Option b9},P.Nodup->P[i]?=some x->vs[i]?=some v->kindOf x=some .local ->
  EE kindOf (P.zip vs) m x=some v
 | [],_,_,_,_,h,_,_=>by simp at h
 | _::_,[],_,_,_,_,h,_=>by simp at h
 | p::P,w::vs,0,m,nd,h1,h2,hk=>by
  simp at h1 h2;subst h1;subst h2
  show EE kindOf ((p,w)::P.zip vs) m p=_
  unfold EE
  rw[sO fun v hv=>(List.nodup_cons.mp nd).1 (jJ hv).1,if_pos hk]
  simp
 | p::P,w::vs,i+1,m,nd,h1,h2,hk=>by
  show EE kindOf ((p,w)::P.zip vs) m x=_
  unfold EE
  exact sP (i:=i) (List.nodup_cons.mp nd).2 (by simpa using h1) (by simpa using h2) hk
theorem sR {kindOf:Str->Option aD}{x:Str}{v:b9}:∀{P:List Str}{vs:List b9}{i:Nat}{m:Str->Option b9},P.Nodup->P[i]?=some x->vs[i]?=some v->kindOf x≠some .local ->
  EF kindOf (P.zip vs) m x=some v
 | [],_,_,_,_,h,_,_=>by simp at h
 | _::_,[],_,_,_,_,h,_=>by simp at h
 | p::P,w::vs,0,m,nd,h1,h2,hk=>by
  simp at h1 h2;subst h1;subst h2
  show EF kindOf ((p,w)::P.zip vs) m p=_
  unfold EF
  rw[sQ fun v hv=>(List.nodup_cons.mp nd).1 (jJ hv).1,if_neg hk]
  simp
 | p::P,w::vs,i+1,m,nd,h1,h2,hk=>by
  show EF kindOf ((p,w)::P.zip vs) m x=_
  unfold EF
  exact sR (i:=i) (List.nodup_cons.mp nd).2 (by simpa using h1) (by simpa using h2) hk
noncomputable def start (N:List Str) (vs:List V):St:=vs.map some++u5 (N.length - vs.length) none
noncomputable def gy (CX:Ad) (P:j7) (w:u9) (K:m6) (mg:Str->Option b9) (base:Heap) (N:List Str) (qual:Str) (scope:T5) (f:Addr) (cd:b9) (A:A8) (outer:List Env) (s:d9) (H:Hp) (E:XK):Cx where
 prog:=P
 w:=w
 K:=K
 mg:=mg
 base:=base
 A:=A.deeper (ae qual scope s.heap.objs.size f cd)
 N:=N
 s₀:=s
 H₀:=H
 env:=ae qual scope s.heap.objs.size f cd
 outer:=outer
 stack:=ae qual scope s.heap.objs.size f cd::outer
 ex:=[]
 calm:=true
 fn:=fun _=>true
 pn:=[]
 xe:=fun e s'=>j6 (r6 P w) (A.deeper (ae qual scope s.heap.objs.size f cd)) (EV (ae qual scope s.heap.objs.size f cd) e) (fun _ s''=>CX outer H s E e s'') (fun e' s''=>CX outer H s E e' s'') s'
theorem lH {sc:T5}{n:Nat}{x:Str} (h:sc.names.lookup x=some .cell):∃c,(R0 n sc.names []).lookup x=some c:=by
 have q:=tq sc.names n [] (.inl h)
 exact Option.isSome_iff_exists.mp q
theorem sF {CX:Ad}{mg:Str->Option b9}{base:Heap}{N:List Str}{qual:Str}{scope:T5}{f:Addr}{cd:b9}{outer:List Env}{s1:d9}{E:XK}{us:List b9}{vs:List V}
  (S:D8 N ps scope) (hd:A.handled=none) (e0:Ez P w K mg base A outer s H) (hl:vs.length=ps.length) (r:K4 vs us)
  (x:InCallC s s.heap.objs.size (EE (ae qual scope s.heap.objs.size f cd).kindOf (ps.zip us) fun _=>none) (R0 (s.heap.objs.size+1) scope.names []) (EF (ae qual scope s.heap.objs.size f cd).kindOf (ps.zip us) fun _=>none) s1):
  C8 (gy CX P w K mg base N qual scope f cd A outer s H E) [] (start N vs) H s1:=by
 have hpl:ps.length<=N.length:=by have:=congrArg BE S.pre;rw[v7] at this;lia
 obtain ⟨h1,tk,rfl,hk⟩:=x.done
 have noA:∀b:Addr,b ∉ (gy CX P w K mg base N qual scope f cd A outer s H E).ex:=fun b z=>absurd (show b∈([]:List Addr) from z) (by simp)
 refine ⟨⟨e0.mod,S.kind,rfl,rfl,i6 _,fun y z c h1 h2=>?_,fun y hy=>?_,fun y c _ h=>?_,fun _=>hd,yV e0.frames,.inr ⟨rfl,rfl⟩,fun b z=>absurd z (noA b),e0.bs,e0.bsz,fun b _ _=>noA b,fun b z=>absurd z (noA b),e0.funs,e0.frf⟩,
  rfl,e0.bare,Un.kept hk,⟨_,x.toInCall.ns,fun i y v h1 h2 h3=>?_⟩,fun y c h=>⟨_,x.cell y c h⟩,e0.hok.fresh (i6 _),fun y c h=>?_,fun p hp=>absurd (show p∈([]:List (Addr × Obj)) from hp) (by simp),e0.hok.kept hk,?_⟩
 ·exact name_of_addr x.apart (bJ h1) (bJ h2)
 ·have hy:scope.names.lookup y=some .cell ∨ scope.names.lookup y=some .free:=hy
  rcases hy with hy|hy
  ·exact lH hy
  ·exact absurd rfl (S.nofree _ (bJ hy))
 ·exact aC (x.above y c (bJ h))
 ·have hi:i<vs.length:=by
   unfold start at h2
   by_cases hi:i<vs.length
   ·exact hi
   ·rw[List.getElem?_append_right (by simpa using hi)] at h2
    rw[xy] at h2
    split at h2 <;> cases h2
  have ha:vs[i]?=some v:=by
   unfold start at h2
   rw[List.getElem?_append_left (by simpa using hi),w5] at h2
   cases e:vs[i]? with
   | none=>rw[e] at h2;cases h2
   | some a=>rw[e] at h2;cases h2;rfl
  obtain ⟨u,hu,rv⟩:=r.get ha
  have hp:ps[i]?=some y:=by
   rw[<- S.pre,List.getElem?_take_of_lt (by lia)];exact h1
  have ndP:ps.Nodup:=by rw[<- S.pre];exact S.nd.sublist (Ff _ _)
  refine ⟨u,rv,?_⟩
  rcases S.par y (m8 hp) with k|k
  ·exact .inl ⟨k,sP ndP hp hu k⟩
  ·obtain ⟨c,e⟩:=lH (n:=s.heap.objs.size+1) k
   refine .inr ⟨.inl k,c,e,?_⟩
   have q:=x.cell y c e
   rw[sR ndP hp hu (by show scope.names.lookup y≠_;rw[k];decide)] at q
   exact q
 ·exact e0.hok.fresh (aC (x.above y c (bJ h)))
 ·unfold start
  show _=N.length
  rw[w9,d8,P1]
  lia
theorem Ea {CX:Ad}{mg:Str->Option b9}{base:Heap}{k:Nat}{f:Addr}{name qual:Str}{params:dH}{body:List Stmt}{scope:T5}{dV kV doc pm cdv ct oc:b9}{an od:Option Addr}
  {osl:Array (Option b9)}{N:List Str}{sp:Sp} (lk:K.lookup f=some ⟨oc,od,.func (gK name qual params body scope dV kV doc pm an cdv ct),osl⟩) (hcd:jH K cdv qual=true) (S:D8 N ps scope)
  (len:∀vs H Q E,sp vs H Q E->vs.length=ps.length)
  (hbody:∀(A:A8) (outer:List Env) (s:d9) (H:Hp) (vs:List V) (Q:VK) (E:XK),cK k (A.deeper (ae qual scope s.heap.objs.size f cdv))->sp vs H Q E ->
   ∃t,rV (gy CX P w K mg base N qual scope f cdv A outer s H E) body t/\t { nx:=fun _ H'=>Q .non H',rt:=Q } (start N vs) H):
  O5 P w K mg base CX (k+1) f (gK name qual params body scope dV kV doc pm an cdv ct) ps sp:=by
 refine ⟨len,fun A outer s H args us vs Q E hr e0 hb r hsp=>?_⟩
 have hl:=len _ _ _ _ hsp
 have KX:K.In s.heap:=e0.mod.kin.keeps fun b o e=>(e0.bs b o e).1
 have lim:s.heap.NoLimit:=e0.mod.nolimit.keeps fun b o e=>(e0.bs b o e).1
 have hkind:∀y∈ps.zip us,scope.names.lookup y.1=some .local ∨ (scope.names.lookup y.1=some .cell/\((R0 (s.heap.objs.size+1) scope.names []).lookup y.1).isSome=true):=fun ⟨n,v⟩ hy=>by
  rcases S.par n (jJ hy).1 with q|q
  ·exact .inl q
  ·exact .inr ⟨q,tq _ _ _ (.inl q)⟩
 refine Gr hr.depth (KX _ _ lk) rfl S.co S.gen rfl (W.codeRec_of KX hcd) (hb _ _ _ _ ?_)
 refine Ae S.kind hkind fun env he s1 x=>?_
 subst he
 refine ⟨lim.keeps x.toInCall.keep,codeAny_func ?_⟩
 obtain ⟨t,ht,hq⟩:=hbody A outer s H vs Q E (hr.deeper _) hsp
 have I:C8 (gy CX P w K mg base N qual scope f cdv A outer s H E) [] (start N vs) H s1:=sF S hr.hd e0 hl r x
 refine F5 (ht [] s1 (start N vs) H _ I hq) (fun fl s' hs=>?_) fun e s' hs=>hs
 have fin:∀{σ':St}{H':Hp}{v:V}{u:b9},C8 (gy CX P w K mg base N qual scope f cdv A outer s H E) [] σ' H' s'->K2 v u->Q v H'->CE outer P w H s Q u s' :=
  fun {σ' H' v u} J rv q=>⟨v,H',J.os,J.bare,J.base,J.hok,rv,q⟩
 cases fl with
 | ret u =>
  obtain ⟨v,σ',H',J,rv,q⟩:=hs
  exact fin J rv q
 | next =>
  obtain ⟨σ',H',J,q⟩:=hs
  exact fin (v:=V.non) (u:=B5) J rfl q
 | brk =>
  obtain ⟨_,_,_,q⟩:=hs
  exact F7 q
 | cont =>
  obtain ⟨_,_,_,q⟩:=hs
  exact F7 q
section
variable {X:Cx}{x:Str}{p pos:Pos}{e:Expr}{es:List Expr}{t:TA}{id T:String}{r:List V->Hp->VK->Prop}
noncomputable def tCB (r:List V->Hp->VK->Prop) (t:TA):TE:=fun σ H Q=>t σ H fun vs H1=>r vs H1 Q
theorem n9 (hc:bE X (.builtin id) r) (hg:Gl X x) (hm:X.mg x=none) (hv:X1 x=some (.builtin id)) (ha:PA X (e::es) t) (hn:x≠"__name__":=by decide) (hdb:(x == ("__debug__":Str))=false:=by decide)
  (he:A4 (e::es) X.env=(false,eval e X.env)::A4 es X.env:=by rfl) (hpl:(aW pos (A4 es X.env)).any (·.1)=false:=by rfl):PE X (.Call (.Name x p) (e::es) [] pos) (tCB r t):=by
 intro pins s σ H Q I h
 refine dq (mJ I hg hm hv ?_ hn hdb)
 exact PyProof.Rows.callWith_builtin1 (W8 (ha pos pins s σ H _ I h) fun us s1 ⟨vs,H1,I1,r1,q1⟩=>hc pins s1 σ H1 vs us Q I1 r1 q1) he hpl
theorem N5 (hc:bE X (.type T) r) (hg:Gl X x) (hm:X.mg x=none) (hv:X1 x=some (.type T)) (ha:PA X (e::es) t) (hn:x≠"__name__":=by decide) (hdb:(x == ("__debug__":Str))=false:=by decide)
  (he:A4 (e::es) X.env=(false,eval e X.env)::A4 es X.env:=by rfl) (hpl:(aW pos (A4 es X.env)).any (·.1)=false:=by rfl):PE X (.Call (.Name x p) (e::es) [] pos) (tCB r t):=by
 intro pins s σ H Q I h
 refine dq (mJ I hg hm hv ?_ hn hdb)
 exact af (W8 (ha pos pins s σ H _ I h) fun us s1 ⟨vs,H1,I1,r1,q1⟩=>hc pins s1 σ H1 vs us Q I1 r1 q1) he hpl
end
end L2
namespace HT
open PySem PyProof.Rows
noncomputable def U7:List Int->List Int->Bool
 | [],[]=>false
 | [],_::_=>true
 | _::_,[]=>false
 | x::xs,y::ys=>if x=y then U7 xs ys else decide (x<y)
theorem ik (x y:Int) (xs ys:List Int):U7 (x::xs) (y::ys)=if x=y then U7 xs ys else decide (x<y):=rfl
theorem rN:U7 [] []=false:=rfl
theorem fw (y:Int) (ys:List Int):U7 [] (y::ys)=true:=rfl
theorem cz (x:Int) (xs:List Int):U7 (x::xs) []=false:=rfl
theorem Eb (A:A8) (s:d9) (a:Int) (t:Tok) (c:Int) (u:Tok):∃e,BU A s (.int a t) (.int c u) e/\(e=true ↔ a=c):=
 ⟨(a == c),xg a t c u,by simp⟩
theorem CT (A:A8) (s:d9) (a:Int) (t:Tok) (c:Int) (u:Tok) (prog:j7) (w:u9) (E:b9->d9->Prop) (Q:b9->d9->Prop) (h:Q (.bool (decide (a<c))) s):
  j6 (r6 prog w) A (richCompare .Lt (.int a t) (.int c u)) Q E s :=
 (PyProof.Rows.lt_int h:j6 (r6 prog w) A (T6 .Lt (.int a t) (.int c u)) Q E s)
section
open PySem.SeqAt
open PySem.AutoSeq1 (wpAny_loadPart')
open PySem.MeetsSeq PySem.MeetsSeq2 PySem.MeetsSeq3
theorem rH (l b:Addr) (items items2:Array b9) (n n2:Nat) (dd dd2:Option Addr) (sl sl2:Array (Option b9)) (ns ms:List Int) (hi:az items.toList ns) (hj:az items2.toList ms):
  Hv (cg.«tuple.__lt__» ⟨[.ref l,.ref b],[]⟩)
   (fun _ R s=>s.heap.get? l=some { cls:=.type "tuple",dict:=dd,data:=.seq items n,slots:=sl }/\s.heap.get? b=some { cls:=.type "tuple",dict:=dd2,data:=.seq items2 n2,slots:=sl2 } /\
    R (.ok (.ret (.bool (U7 ns ms)))) s):=
 .of_wp fun prog w A R s h=>by
  obtain ⟨hp,g,d,tk,os⟩:=s;obtain ⟨hl,hb,h⟩:=h
  have f2:=AutoSeq1.sub_tuple_tuple
  have z1:items.size=ns.length:=by rw[<- hi.length];simp
  have z2:items2.size=ms.length:=by rw[<- hj.length];simp
  wp_walk using xv hl,xv hb,wpAny_forIn_list _ (fun jK b s'=>b.1=none/\s'=⟨hp,g,d,tk,os⟩/\∃(vs ws:List b9) (ns' ms':List Int),jK=vs.zip ws /\
   az vs ns'/\az ws ms'/\ns'.length+items2.size=ms'.length+items.size/\R (.ok (.ret (.bool (U7 ns' ms')))) ⟨hp,g,d,tk,os⟩) _
  case turn =>
   rintro ⟨y,x⟩ jK b s' ⟨hb',rfl,vs,ws,ns',ms',hz,hvi,hwi,hlen,hR⟩
   cases hvi with
   | nil=>rw[List.zip_nil_left] at hz;cases hz
   | cons a t hvi' =>
    cases hwi with
    | nil=>rw[List.zip_nil_right] at hz;cases hz
    | cons c u hwi' =>
     rw[au] at hz
     injection hz with hyx hrest
     injection hyx with hy hx
     subst hy hx
     rw[ik] at hR
     simp only[m9] at hlen
     obtain ⟨e,he,hiff⟩:=Eb A.in1 ⟨hp,g,d,tk,os⟩ a t c u
     refine b7 (he prog w _ _ ?_)
     cases e with
     | true =>
      rw[if_pos (hiff.mp rfl)] at hR
      wp_walk
      exact ⟨rfl,rfl,_,_,_,_,hrest,hvi',hwi',by lia,hR⟩
     | false =>
      rw[if_neg (fun q=>absurd (hiff.mpr q) t7)] at hR
      have hri:=CT A.in1 ⟨hp,g,d,tk,os⟩ a t c u prog w
      wp_walk using hri
      exact ⟨_,rfl,by simpa using hR⟩
  case fin =>
   rintro ⟨b1,b2⟩ s' ⟨hb',rfl,vs,ws,ns',ms',hz,hvi,hwi,hlen,hR⟩
   simp only at hb'
   subst hb'
   have hv:U7 ns' ms'=decide (items.size<items2.size):=by
    cases hvi with
    | nil =>
     cases hwi with
     | nil =>
      simp only[O0] at hlen
      rw[rN]
      exact (decide_eq_false (by lia)).symm
     | cons c u hw =>
      simp only[O0,m9] at hlen
      rw[fw]
      exact (decide_eq_true (by lia)).symm
    | cons a t hv =>
     cases hwi with
     | nil =>
      simp only[O0,m9] at hlen
      rw[cz]
      exact (decide_eq_false (by lia)).symm
     | cons c u hw =>
      rw[au] at hz
      cases hz
   rw[hv] at hR
   wp_walk
   exact ⟨_,rfl,by simpa [Builtin.Tuple.tupleCompareSizes] using hR⟩
  case h =>
   exact ⟨rfl,rfl,items.toList,items2.toList,ns,ms,rfl,hi,hj,by lia,h⟩
end
section
variable {prog:j7}{w:u9}{A:A8}{E:b9->d9->Prop}{s:d9}
variable {Q:b9->d9->Prop}
theorem yu {l b:Addr}{items items2:Array b9}{ns ms:List Int}(hl:xj s.heap l items) (hb:xj s.heap b items2) (hi:az items.toList ns) (hj:az items2.toList ms)
  (hu:A.units<fA) (h:Q (.bool (U7 ns ms)) s):j6 (r6 prog w) A (T6 .Lt (.ref l) (.ref b)) Q E s:=by
 obtain ⟨⟨cls,dd,data,sl⟩,ho,hc,n,hd⟩:=id hl
 obtain ⟨⟨cls2,dd2,data2,sl2⟩,ho2,hc2,n2,hd2⟩:=id hb
 simp only at hc hd hc2 hd2
 subst hc hd hc2 hd2
 exact richCompare_meets_room (op:=.Lt) ⟨_,ho,rfl⟩ ⟨_,ho2,rfl⟩ PySem.F.slot_tuple_lt PySem.F.entry_tuple_lt (PySem.F.args_tuple_lt_2 _ _) (rH l b items items2 n n2 dd dd2 sl sl2 ns ms hi hj)
  ⟨ho,ho2,show R1 (U7 ns ms)≠Al/\Q (.bool (U7 ns ms)) s from ⟨(fun x=>nomatch x),h⟩⟩ hu
theorem Gg {t b:Addr}{vs ws:List b9}(ht:xj s.heap t vs.toArray) (hb:xj s.heap b ws.toArray) (hv:vs≠[])
  (h1:ws=[]->Q (.ref t) s) (h2:ws≠[]->Q (.ref s.heap.objs.size) { s with heap:=s.heap.push { cls:=.type "tuple",data:=.seq (vs++ws).toArray } })
  (hsz:vs.length+ws.length<=i0):j6 (r6 prog w) A (Y2 .Add (.ref t) (.ref b)) Q E s:=by
 obtain ⟨⟨cls,dd,data,sl⟩,ho,hc,n,hd⟩:=id ht
 obtain ⟨⟨cls2,dd2,data2,sl2⟩,ho2,hc2,n2,hd2⟩:=id hb
 simp only at hc hd hc2 hd2
 subst hc hd hc2 hd2
 have e:vs.toArray++ws.toArray=(vs++ws).toArray:=by simp
 by_cases hw:ws=[]
 ·exact EW ⟨_,ho,rfl⟩ ⟨_,ho2,rfl⟩ vg BN iK gO (fY _ _)
   (tuple_addW1 t b vs.toArray ws.toArray n n2 dd dd2 sl sl2 (by simpa using hv) (by simp[hw])) ⟨ho,ho2,h1 hw⟩
 ·refine EW ⟨_,ho,rfl⟩ ⟨_,ho2,rfl⟩ vg BN iK gO (fY _ _)
   (tuple_addW2 t b vs.toArray ws.toArray n n2 dd dd2 sl sl2 (by simpa using hv) (by simpa using hw) (by rw[q9,q9];exact hsz)) ⟨ho,ho2,?_⟩
  rw[e]
  exact h2 hw
noncomputable def dg (n d:Nat):Option Int->Nat
 | none=>d
 | some v=>if v<0 then (v+(n:Int)).toNat else min v.toNat n
theorem vK (n d:Nat):dg n d none=d:=rfl
theorem zd (n d k:Nat):dg n d (some (k:Int))=min k n:=by
 show (if (k:Int)<0 then ((k:Int)+(n:Int)).toNat else min (k:Int).toNat n)=min k n
 rw[if_neg (by lia),M3]
theorem Ip (n d:Nat) (hd:d<=n) (o:Option Int):dg n d o<=n:=by
 cases o with
 | none=>exact hd
 | some v =>
  show (if v<0 then (v+(n:Int)).toNat else min v.toNat n)<=n
  by_cases hv:v<0
  ·rw[if_pos hv];lia
  ·rw[if_neg hv];exact Nat.min_le_right _ _
theorem zT (v:Int) (n d:Nat):(if v<0 then max (v+(n:Int)) 0 else min v (n:Int))=((dg n d (some v):Nat):Int):=by
 show (if v<0 then max (v+(n:Int)) 0 else min v (n:Int))=(((if v<0 then (v+(n:Int)).toNat else min v.toNat n):Nat):Int)
 by_cases hv:v<0
 ·simp only[if_pos hv];lia
 ·simp only[if_neg hv];lia
theorem yI (lo hi:Option Int) (n:Nat):eg lo hi 1 (n:Int)=(((dg n 0 lo:Nat):Int),((dg n n hi:Nat):Int)):=by
 have h1:¬ ((1:Int)<0):=by lia
 unfold eg
 simp only[h1,if_false]
 refine Prod.ext ?_ ?_
 ·cases lo with
  | none=>rfl
  | some v=>exact zT v n 0
 ·cases hi with
  | none=>rfl
  | some v=>exact zT v n n
theorem xX (i j:Nat):aJ (i:Int) (j:Int) 1=j - i:=by
 unfold aJ
 have h1:(1:Int) > 0:=by lia
 simp only[h1,if_true,Int.ediv_one]
 split <;> lia
theorem pM {v:b9}{o:Option Int}{Q:Option Int->d9->Prop} (p:nY v o) (h:Q o s):j6 (r6 prog w) A (Builtin.Slice.slicePartIndex v) Q E s:=by
 cases p with
 | none=>exact slicePart_none h
 | int i t=>exact slicePart_int h
theorem gn {sl:Addr}{vl vu:b9}{lo hi:Option Int}{n:Nat}{Q:Int × Int × Nat->d9->Prop} (hs:s.heap.IsSliceOf sl vl vu .none) (pl:nY vl lo) (pu:nY vu hi)
  (h:Q (((dg n 0 lo:Nat):Int),1,dg n n hi - dg n 0 lo) s):j6 (r6 prog w) A (lZ (.ref sl) (pure (n:Int))) Q E s:=by
 obtain ⟨os,hos,hcs,hds⟩:=id hs
 unfold lZ Builtin.Slice.sliceFields
 refine b7 (b7 (C3 hos hds (x:=vl) rfl (b7 (C3 hos hds (x:=vu) rfl (b7 (C3 hos hds (x:=.none) rfl (d6 ?_)))))))
 refine b7 (slicePart_none ?_)
 show j6 _ _ (if ((1:Int) == 0)=true then _ else _) _ _ s
 rw[if_neg (by decide)]
 refine b7 (pM pl (b7 (pM pu (b7 (d6 ?_)))))
 show j6 _ _ (match eg lo hi 1 (n:Int) with | (lo,hi)=>pure (lo,(1:Int),aJ lo hi 1)) _ _ s
 rw[yI lo hi n]
 show j6 _ _ (pure (((dg n 0 lo:Nat):Int),(1:Int),aJ ((dg n 0 lo:Nat):Int) ((dg n n hi:Nat):Int) 1)) _ _ s
 rw[xX]
 exact d6 h
theorem Dc (xs:Array b9) (i k:Nat):((J9 k).filterMap fun (m:Nat)=>xs[((i:Int)+(m:Int)*1).toNat]?).toArray=((xs.toList.drop i).take k).toArray:=by
 have e:(fun (m:Nat)=>xs[((i:Int)+(m:Int)*1).toNat]?)=fun m=>xs[i+m]?:=by
  funext m
  have:((i:Int)+(m:Int)*1).toNat=i+m:=by lia
  rw[this]
 rw[e]
 have:=pick_run xs i k
 rw[List.filterMap_map] at this
 have e2:((fun x=>xs[x]?) ∘ fun x=>i+x)=fun m=>xs[i+m]?:=rfl
 rw[e2] at this
 rw[this]
theorem lE {t sl:Addr}{items:Array b9}{vl vu:b9}{lo hi:Option Int}(ht:xj s.heap t items) (hs:s.heap.IsSliceOf sl vl vu .none) (pl:nY vl lo) (pu:nY vu hi)
  (hw:¬ (dg items.size 0 lo=0/\dg items.size items.size hi=items.size))
  (h:Q (.ref s.heap.objs.size) { s with heap:=s.heap.push { cls:=.type "tuple",data:=.seq ((items.toList.drop (dg items.size 0 lo)).take (dg items.size items.size hi - dg items.size 0 lo)).toArray } })
  (hsz:items.size<=i0):j6 (r6 prog w) A (jt (.ref t) (.ref sl)) Q E s:=by
 have htake:sizeOk (.seq ((items.toList.drop (dg items.size 0 lo)).take (dg items.size items.size hi - dg items.size 0 lo)).toArray):=by
  show ((items.toList.drop (dg items.size 0 lo)).take (dg items.size items.size hi - dg items.size 0 lo)).toArray.size<=i0
  rw[q9,v7,K0,D9]
  lia
 have hj:dg items.size items.size hi<=items.size:=Ip _ _ (i6 _) hi
 obtain ⟨os,hos,hcs,hds⟩:=id hs
 have hTs:s.TypeIs (.ref sl) "slice":=⟨os,hos,hcs⟩
 unfold jt
 try with_reducible refine L8 ?_
 first|refine b7 (d6 ?_)|skip
 refine b7 (LN ht.typeIs (by decide) ?_)
 refine b7 (C0 (name:=P9 "__getitem__") ht.typeIs X2
  (D5 X2 ht.typeIs Jw ?_ (JW _ _)))
 show j6 _ _ (lX (.ref t) >>= _) _ _ s
 refine b7 (tupleItemsOf_ ht ?_)
 refine b7 (sS hTs ?_)
 rw[if_pos (by decide)]
 refine b7 (gn hs pl pu ?_)
 have hno:¬ ((((dg items.size 0 lo:Nat):Int) == 0&&(1:Int) == 1&&(dg items.size items.size hi - dg items.size 0 lo) == items.size)=true):=by
  intro q
  rw[y6,y6] at q
  have q1:((dg items.size 0 lo:Nat):Int)=0:=eq_of_beq q.1.1
  have q2:dg items.size items.size hi - dg items.size 0 lo=items.size:=eq_of_beq q.2
  exact hw ⟨by lia,by lia⟩
 show j6 _ _ (if (((dg items.size 0 lo:Nat):Int) == 0&&(1:Int) == 1&&(dg items.size items.size hi - dg items.size 0 lo) == items.size)=true then _ else _) _ _ s
 rw[if_neg hno,Dc]
 first
  | exact b7 (m:=ba _) (B6 (d6 ⟨_,rfl,d6 h⟩) htake)
  | exact b7 (m:=ba _) (B6 (b7 (d6 (d6 ⟨_,rfl,d6 h⟩))) htake)
  | exact b7 (b7 (m:=ba _) (B6 (d6 (d6 ⟨_,rfl,d6 h⟩)) htake))
  | exact b7 (b7 (m:=ba _) (B6 (d6 ⟨_,rfl,d6 h⟩) htake))
end
end HT
namespace L2
open PySem PySem.Spec PyProof.Rows
noncomputable abbrev TO:=St->Hp->(Option Int->Hp->Prop)->Prop
noncomputable def PO (X:Cx) (e:Option Expr) (t:TO):Prop :=
 ∀(pins:List (Addr × Obj)) (s:d9) (σ:St) (H:Hp) (Q:Option Int->Hp->Prop),C8 X pins σ H s->t σ H Q ->
  j6 (r6 X.prog X.w) X.A (evalPart e X.env) (fun u s'=>∃o H',C8 X pins σ H' s'/\nY u o/\Q o H') X.xe s
noncomputable def W2:TO:=fun _ H Q=>Q none H
noncomputable def cn (t:TE):TO:=fun σ H Q=>t σ H fun x H1=>∃i,x=.int i/\Q (some i) H1
theorem qK {ns:List Int}:∀{us:List b9},K4 (ns.map V.int) us->az us ns:=by
 induction ns with
 | nil=>intro us r;rw[yT] at r;cases r;exact .nil
 | cons n ns ih =>
  intro us r
  rw[A9] at r
  cases r with
  | cons r1 r2 =>
   obtain ⟨t,e⟩:=r1
   subst e
   exact .cons n t (ih r2)
section
variable {X:Cx}{e:Expr}{te:TE}{lo hi:Option Expr}{tl th:TO}{pos p2:Pos}
theorem U5:PO X none W2:=by
 intro pins s σ H Q I h
 rw[evalPart_none]
 exact d6 ⟨none,H,I,.none,h⟩
theorem U4 (h:PE X e te):PO X (some e) (cn te):=by
 intro pins s σ H Q I hw
 rw[evalPart_some]
 refine W8 (h pins s σ H _ I hw) fun u s1 ⟨x,H1,I1,r1,q1⟩=>?_
 obtain ⟨i,rfl,q⟩:=q1
 obtain ⟨t,rfl⟩:=r1
 exact ⟨some i,H1,I1,.int i t,q⟩
noncomputable def Ma (X:Cx) (r:V->Option Int->Option Int->Hp->VK->Prop):Prop :=
 ∀(pins:List (Addr × Obj)) (s:d9) (σ:St) (H:Hp) (x:V) (v vl vu:b9) (lo hi:Option Int) (sl:Addr) (Q:VK),C8 X pins σ H s->K2 x v->s.heap.IsSliceOf sl vl vu .none->nY vl lo->nY vu hi->r x lo hi H Q ->
  ∃T id,JT (.type T) "__getitem__"=pure (some (.builtin id))/\s.TypeIs v T/\j6 (r6 X.prog X.w) X.A (jt v (.ref sl)) (EP X pins σ Q) X.xe s
noncomputable def va (r:V->Option Int->Option Int->Hp->VK->Prop) (te:TE) (tl th:TO):TE:=fun σ H Q=>te σ H fun x H1=>tl σ H1 fun l H2=>th σ H2 fun u H3=>r x l u H3 Q
theorem P5 {r:V->Option Int->Option Int->Hp->VK->Prop} (hr:Ma X r) (he:PE X e te) (hl:PO X lo tl) (hu:PO X hi th):PE X (.Subscript e (.Slice lo hi none p2) pos) (va r te tl th):=by
 intro pins s σ H Q I h
 refine Ka (W8 (he pins s σ H _ I h) fun v s1 ⟨x,H1,I1,r1,q1⟩=>?_)
 refine wpAny_Slice (W8 (hl pins s1 σ H1 _ I1 q1) fun vl s2 ⟨l,H2,I2,pl,q2⟩=>W8 (hu pins s2 σ H2 _ I2 q2) fun vu s3 ⟨u,H3,I3,pu,q3⟩=>?_)
 rw[evalPart_none]
 refine d6 ?_
 have I4:C8 X pins σ H3 { s3 with heap:=s3.heap.push { cls:=.type "slice",data:=.fields #[vl,vu,.none] } }:=I3.kept (t':=s3.toks) fun b ob q=>d7 _ q
 obtain ⟨T,id,hT,ht,hg⟩:=hr pins { s3 with heap:=s3.heap.push { cls:=.type "slice",data:=.fields #[vl,vu,.none] } } σ H3 x v vl vu l u s3.heap.objs.size Q I4 r1 (Heap.IsSliceOf.new ..) pl pu q3
 show j6 (r6 X.prog X.w) X.A (BM e (.Slice lo hi none p2) v (.ref s3.heap.objs.size)) (EP X pins σ Q) X.xe { s3 with heap:=s3.heap.push { cls:=.type "slice",data:=.fields #[vl,vu,.none] } }
 exact tail_any (ops:=[.ref s3.heap.objs.size,v]) ht hT hg (by with_unfolding_all rfl)
noncomputable def jO (xs:List V) (lo hi:Option Int):List V:=(xs.drop (HT.dg xs.length 0 lo)).take (HT.dg xs.length xs.length hi - HT.dg xs.length 0 lo)
theorem dD (xs:List V) (lo hi:Option Int):(jO xs lo hi).length<=xs.length:=by
 unfold jO
 rw[v7,K0]
 lia
noncomputable def rSlT (K:m6):V->Option Int->Option Int->Hp->VK->Prop:=fun x lo hi H Q=>∃a xs,x=.ref a/\dI K H a xs /\
 ¬ (HT.dg xs.length 0 lo=0/\HT.dg xs.length xs.length hi=xs.length)/\∀p,H p=none->Q (.ref p) (n8 H p (.tup (jO xs lo hi)))
theorem Ia:Ma X (rSlT X.K):=by
 intro pins s σ H x v vl vu lo hi sl Q I rx hs pl pu h
 obtain ⟨a,xs,rfl,hx,hw,q⟩:=h
 cases rx
 obtain ⟨its,r,ht,hz⟩:=I.tuple hx
 have hlen:its.toArray.size=xs.length:=by rw[q9];exact r.length.symm
 refine ⟨"tuple",_,PyProof.Rows.slot_tuple_getitem.lookup,ht.typeIs,?_⟩
 refine HT.lE ht hs pl pu (by rw[hlen];exact hw) ?_ (by rw[hlen];exact hz)
 rw[hlen]
 refine ⟨.ref s.heap.objs.size,_,I.laid (t':=s.toks) (o:=.tup (jO xs lo hi)) (fun b ob q=>d7 _ q) (i6 _) ?_,rfl,q _ (I.hok.fresh (i6 _))⟩
 exact ⟨j0 (dD xs lo hi) hz,_,(r.drop (HT.dg xs.length 0 lo)).take (HT.dg xs.length xs.length hi - HT.dg xs.length 0 lo),iL _ _⟩
noncomputable def KP (K:m6):R2:=fun x y H Q=>∃a b xs ys,x=.ref a/\y=.ref b/\dI K H a xs/\dI K H b ys/\xs≠[]/\xs.length+ys.length<=i0 /\
 (ys=[]->Q (.ref a) H)/\(ys≠[]->∀p,H p=none->Q (.ref p) (n8 H p (.tup (xs++ys))))
theorem K4.nil_iff {xs:List V}{us:List b9} (r:K4 xs us):us=[] ↔ xs=[]:=by
 cases r with
 | nil=>simp
 | cons _ _=>simp
theorem FI:jQ X (Y2 .Add) (KP X.K):=by
 intro pins s σ H x y v u Q I rx ry h
 obtain ⟨a,b,xs,ys,rfl,rfl,ha,hb,hx,hz,q1,q2⟩:=h
 cases rx
 cases ry
 obtain ⟨its,r1,p1,_⟩:=I.tuple ha
 obtain ⟨its2,r2,p2,_⟩:=I.tuple hb
 refine HT.Gg p1 p2 (fun z=>hx (r1.nil_iff.mp z)) (fun z=>⟨.ref a,H,I,rfl,q1 (r2.nil_iff.mp z)⟩) (fun z=>?_) (by rw[<- r1.length,<- r2.length];exact hz)
 refine ⟨.ref s.heap.objs.size,_,I.laid (t':=s.toks) (o:=.tup (xs++ys)) (fun b ob q=>d7 _ q) (i6 _) ?_,rfl,q2 (fun w=>z (r2.nil_iff.mpr w)) _ (I.hok.fresh (i6 _))⟩
 exact ⟨by rw[w9];exact hz,_,r1.append r2,iL _ _⟩
end
noncomputable def FT (n:Nat) (i:Int):Option Nat:=if 0<=i then (if i<n then some i.toNat else none) else if -(n:Int)<=i then some (i+n).toNat else none
noncomputable def GS {α:Type} (xs:List α) (i:Int):Option α:=(FT xs.length i).bind fun j=>xs[j]?
theorem zC {n:Nat}{i:Int}{j:Nat} (h:FT n i=some j):seqIndex? i n=some j/\j<n/\-(n:Int)<=i/\i<n:=by
 unfold FT at h
 by_cases h0:0<=i
 ·rw[if_pos h0] at h
  by_cases h1:i<n
  ·rw[if_pos h1] at h
   have e:i.toNat=j:=C1 h
   exact ⟨by rw[GY h0 h1,e],by lia,by lia,h1⟩
  ·rw[if_neg h1] at h;cases h
 ·rw[if_neg h0] at h
  by_cases h1:-(n:Int)<=i
  ·rw[if_pos h1] at h
   have e:(i+n).toNat=j:=C1 h
   exact ⟨by rw[ET (by lia) h1,e],by lia,h1,by lia⟩
  ·rw[if_neg h1] at h;cases h
theorem zY {α:Type}{xs:List α}{i:Int}{v:α} (h:GS xs i=some v):∃j,seqIndex? i xs.length=some j/\xs[j]?=some v/\j<xs.length/\-(xs.length:Int)<=i/\i<xs.length:=by
 unfold GS at h
 cases e:FT xs.length i with
 | none=>rw[e] at h;cases h
 | some j =>
  rw[e] at h
  obtain ⟨h1,h2,h3,h4⟩:=zC e
  exact ⟨j,h1,h,h2,h3,h4⟩
theorem D7 {α:Type}{xs:List α}{j:Nat}{v:α} (h:xs[j]?=some v):GS xs (j:Int)=some v:=by
 have hj:j<xs.length:=(List.getElem?_eq_some_iff.mp h).1
 have e:FT xs.length (j:Int)=some j:=by
  unfold FT
  rw[if_pos (by lia),if_pos (by lia)];simp
 unfold GS;rw[e];exact h
noncomputable def Aa (b:Expr):Prop:=∀o i,wZ b false o i=operate [o,i] (jt o i)
noncomputable def LD (X:Cx) (r:R2):Prop :=
 ∀(value slice:Expr) (pins:List (Addr × Obj)) (s:d9) (σ:St) (H:Hp) (x y:V) (v u:b9) (Q:VK),C8 X pins σ H s->K2 x v->K2 y u->r x y H Q ->
  wZ slice false v u=operate [v,u] (jt v u)->j6 (r6 X.prog X.w) X.A (BM value slice v u) (EP X pins σ Q) X.xe s
noncomputable def MtR (X:Cx) (id:String) (r:V->List V->Hp->VK->Prop):Prop :=
 ∀(pins:List (Addr × Obj)) (s:d9) (σ:St) (H:Hp) (x:V) (xs:List V) (v:b9) (us:List b9) (Q:VK),C8 X pins σ H s->K2 x v->K4 xs us->r x xs H Q ->
  j6 (r6 X.prog X.w) X.A (call (.builtin id) (v::us)) (EP X pins σ Q) X.xe s
section
variable {X:Cx}{a b:Expr}{ta tb:TE}{pos:Pos}
theorem M7 {r:R2} (hr:LD X r) (ha:PE X a ta) (hb:PE X b tb) (hs:Aa b):PE X (.Subscript a b pos) (gQ r ta tb):=by
 intro pins s σ H Q I h
 exact Ka (Jm ha hb I h fun v u s2 x y H2 I2 rx ry q=>hr a b pins s2 σ H2 x y v u Q I2 rx ry q (hs _ _))
noncomputable def Fv (K:m6):R2:=fun x y H Q=>∃p xs i v,x=.ref p/\y=.int i/\dP K H p xs/\GS xs i=some v/\Q v H
noncomputable def Iw (K:m6):R2:=fun x y H Q=>∃p xs i v,x=.ref p/\y=.int i/\dI K H p xs/\GS xs i=some v/\Q v H
theorem W4:LD X (Fv X.K):=by
 intro value slice pins s σ H x y v u Q I rx ry h hs
 obtain ⟨p,xs,i,z,rfl,rfl,hq,he,q⟩:=h
 cases rx
 obtain ⟨t,rfl⟩:=ry
 obtain ⟨its,r,pl,hz⟩:=I.list hq
 obtain ⟨j,h1,h2,h3,h4,h5⟩:=zY he
 obtain ⟨w,ew,rw'⟩:=r.get h2
 have hl:=r.length
 have hn:=uo
 have fin:EP X pins σ Q w s:=⟨z,H,I,rw',q⟩
 by_cases h0:0<=i
 ·have hj:i.toNat=j:=by
   rw[GY h0 h5] at h1
   exact C1 h1
  exact item_listR pl.isList h0 (by lia) (by rw[hj];simpa using ew) fin hs
 ·have hj:(i+(its.toArray.size:Int)).toNat=j:=by
   rw[ET (by lia) h4] at h1
   rw[q9,<- hl]
   exact C1 h1
  exact ES (x:=w) pl.isList.typeIs slot_list_getitem.lookup
   (wpAny_getItem_list_neg (Q:=fun r s'=>r=w/\EP X pins σ Q r s') pl.isList (by lia) (by rw[q9] <;> lia) (by lia) (by rw[hj];simpa using ew) ⟨rfl,fin⟩) hs
theorem R5:LD X (Iw X.K):=by
 intro value slice pins s σ H x y v u Q I rx ry h hs
 obtain ⟨p,xs,i,z,rfl,rfl,hq,he,q⟩:=h
 cases rx
 obtain ⟨t,rfl⟩:=ry
 obtain ⟨its,r,pl,hz⟩:=I.tuple hq
 obtain ⟨j,h1,h2,h3,h4,h5⟩:=zY he
 obtain ⟨w,ew,rw'⟩:=r.get h2
 have hl:=r.length
 have hn:=uo
 have fin:EP X pins σ Q w s:=⟨z,H,I,rw',q⟩
 exact ES (x:=w) pl.typeIs slot_tuple_getitem.lookup
  (getItem_tuple (j:=j) (Q:=fun r s'=>r=w/\EP X pins σ Q r s') pl (by lia) (by lia) (by rw[q9,<- hl];exact h1) (by simpa using ew) ⟨rfl,fin⟩) hs
theorem yt (its:List b9) (n j:Nat) (u:b9):X3 (·.setIfInBounds j u) { cls:=.type "list",data:=.seq its.toArray n }={ cls:=.type "list",data:=.seq (its.set j u).toArray n }:=by
 simp[X3]
theorem C8.lst {pins:List (Addr × Obj)}{σ:St}{H:Hp}{s:d9}{p:Addr}{xs:List V} (I:C8 X pins σ H s) (h:H p=some (.lst xs)):
  ∃(its:List b9) (n:Nat),K4 xs its/\s.heap.get? p=some { cls:=.type "list",data:=.seq its.toArray n }/\xs.length<=i0:=by
 obtain ⟨z,its,n,r,e⟩:=I.hok p _ h
 exact ⟨its,n,r,e,z⟩
theorem C8.lstUpd {pins:List (Addr × Obj)}{σ:St}{H:Hp}{s:d9}{p:Addr}{xs ys:List V}{its its':List b9}{n n':Nat}{f:Obj->Obj} (I:C8 X pins σ H s) (h:H p=some (.lst xs))
  (ho:s.heap.get? p=some { cls:=.type "list",data:=.seq its.toArray n }) (hf:f { cls:=.type "list",data:=.seq its.toArray n }={ cls:=.type "list",data:=.seq its'.toArray n' }) (r:K4 ys its') (hz:ys.length<=i0) (t:Nat):
  C8 X pins σ (n8 H p (.lst ys)) { s with heap:=s.heap.update p f,toks:=t }:=by
 have e:(s.heap.update p f).get? p=some { cls:=.type "list",data:=.seq its'.toArray n' }:=by
  rw[L7 f ho (by rw[hf] <;> rfl),hf]
 refine I.write (x:=p) (e:=p) (by rw[h];trivial) (.inl rfl) (fun b u hb q=>(E8 _ _ (F6 hb)).trans q) ⟨_,e⟩ ?_
 exact ⟨hz,its',n',r,e⟩
noncomputable def KH:V->V->V->Hp->(Hp->Prop)->Prop:=fun o i v H Q=>∃p xs k j,o=.ref p/\i=.int k/\H p=some (.lst xs)/\FT xs.length k=some j/\Q (n8 H p (.lst (xs.set j v)))
theorem kX:Lw X KH:=by
 intro pins s σ H o i v ov iv u Q I ro ri rv h
 obtain ⟨p,xs,k,j,rfl,rfl,hp,hj,q⟩:=h
 cases ro
 obtain ⟨t,rfl⟩:=ri
 obtain ⟨its,n,r,ho,hz⟩:=I.lst hp
 obtain ⟨h1,h2,h3,h4⟩:=zC hj
 have hl:=r.length
 have hn:=uo
 have I':C8 X pins σ (n8 H p (.lst (xs.set j v))) { s with heap:=s.heap.update p (X3 (·.setIfInBounds j u)) } :=
  I.lstUpd hp ho (yt its n j u) (r.set rv j) (by rw[aI];exact hz) s.toks
 by_cases h0:0<=k
 ·have hk:k.toNat=j:=by
   rw[GY h0 h4] at h1
   exact C1 h1
  exact W.ki_setAt ho h0 (by lia) (by rw[q9,<- hl];exact h4) (by rw[hk];exact ⟨_,I',q⟩)
 ·have hk:(k+(its.toArray.size:Int)).toNat=j:=by
   rw[ET (by lia) h3] at h1
   rw[q9,<- hl]
   exact C1 h1
  exact W.ki_setBack ho (by lia) (by rw[q9,<- hl];exact h3) (by lia) (by rw[hk];exact ⟨_,I',q⟩)
theorem D6:bE X (.builtin "len") (fun xs H Q=>∃p ys,xs=[.ref p]/\(dP X.K H p ys ∨ dI X.K H p ys)/\Q (.int ys.length) H):=by
 intro pins s σ H xs us Q I r h
 obtain ⟨p,ys,rfl,hq,q⟩:=h
 obtain ⟨u,rfl,rx⟩:=kU r
 cases rx
 have hn:=uo
 rcases hq with hq|hq
 ·obtain ⟨its,r',pl,hz⟩:=I.list hq
  have hlen:=r'.length
  exact Calls.call_len_list pl.isList (by simp only[q9] <;> lia) ⟨.int ys.length,H,I.tok _,⟨s.toks+1,by rw[q9,hlen]⟩,q⟩
 ·obtain ⟨its,r',pl,hz⟩:=I.tuple hq
  have hlen:=r'.length
  exact len_tuple pl (by simp only[q9] <;> lia) ⟨.int ys.length,H,I.tok _,⟨s.toks+1,by rw[q9,hlen]⟩,q⟩
theorem eK:bE X (.type "list") (fun xs H Q=>∃p ys,xs=[.ref p]/\(dP X.K H p ys ∨ dI X.K H p ys)/\∀l,H l=none->Q (.ref l) (n8 H l (.lst ys))):=by
 intro pins s σ H xs us Q I r h
 obtain ⟨p,ys,rfl,hq,q⟩:=h
 obtain ⟨u,rfl,rx⟩:=kU r
 cases rx
 have fin:∀(its:List b9),K4 ys its->ys.length<=i0->∀(h':Heap) (c':Nat),(∀b o',s.heap.get? b=some o'->h'.get? b=some o') ->
   h'.get? s.heap.objs.size=some { cls:=.type "list",dict:=none,data:=.seq its.toArray c',slots:=#[] }->EP X pins σ Q (.ref s.heap.objs.size) { s with heap:=h' }:=fun its r' hz h' c' kp e =>
  ⟨.ref s.heap.objs.size,_,I.laid (t':=s.toks) kp (i6 _) (show M9 X.prog X.w _ h' _ (.lst ys) from ⟨hz,its,c',r',e⟩),rfl,q _ (I.hok.fresh (i6 _))⟩
 rcases hq with hq|hq
 ·obtain ⟨its,r',pl,hz⟩:=I.list hq
  have hlen:=r'.length
  obtain ⟨o,ho,hc,n,hd⟩:=pl.isList
  exact call_list_seq p (.inl rfl) ho hc hd (fun h' c' kp e=>fin its r' hz h' c' kp e) (by simp only[q9] <;> lia)
 ·obtain ⟨its,r',pl,hz⟩:=I.tuple hq
  have hlen:=r'.length
  obtain ⟨o,ho,hc,n,hd⟩:=pl
  exact call_list_seq p (.inr rfl) ho hc hd (fun h' c' kp e=>fin its r' hz h' c' kp e) (by simp only[q9] <;> lia)
theorem Q6:bE X (.type "tuple") (fun xs H Q=>∃p ys,xs=[.ref p]/\((dP X.K H p ys/\∀l,H l=none->Q (.ref l) (n8 H l (.tup ys))) ∨ (dI X.K H p ys/\Q (.ref p) H))):=by
 intro pins s σ H xs us Q I r h
 obtain ⟨p,ys,rfl,h⟩:=h
 obtain ⟨u,rfl,rx⟩:=kU r
 cases rx
 rcases h with ⟨hq,q⟩|⟨hq,q⟩
 ·obtain ⟨its,r',pl,hz⟩:=I.list hq
  have hlen:=r'.length
  refine call_tuple_list pl.isList (fun h' kp=>?_) (by simp only[q9] <;> lia)
  have I1:C8 X pins σ H { s with heap:=h' }:=I.kept (t':=s.toks) kp
  have I2:C8 X pins σ (n8 H h'.objs.size (.tup ys)) { s with heap:=h'.push { cls:=.type "tuple",data:=.seq its.toArray } } :=
   I1.laid (t':=s.toks) (fun b o e=>d7 _ e) (i6 _) (show M9 X.prog X.w _ _ _ (.tup ys) from ⟨hz,its,r',iL _ _⟩)
  exact ⟨.ref h'.objs.size,_,I2,rfl,q _ (I1.hok.fresh (i6 _))⟩
 ·obtain ⟨its,r',pl,hz⟩:=I.tuple hq
  exact call_tuple_same pl ⟨.ref p,H,I,rfl,q⟩
noncomputable def tyV (K:m6) (T:String) (x:V) (H:Hp):Prop:=match x with
 | .str _=>T="str"
 | .int _=>T="int"
 | .ref p=>(T="list"/\∃xs,dP K H p xs) ∨ (T="tuple"/\∃o,K.lookup p=some o/\o.cls=.type "tuple"/\o.dict=none) ∨
   (T="dict"/\((∃kvs,H p=some (.dK kvs)) ∨ ∃kvs,H p=some (.dT kvs))) ∨ (T="set"/\∃S n,H p=some (.set S n))
 | _=>False
theorem HK {pins:List (Addr × Obj)}{σ:St}{H:Hp}{s:d9}{T:String}{x:V}{v:b9} (I:C8 X pins σ H s) (r:K2 x v) (ty:tyV X.K T x H):
  s.TypeIs v T/\∀a,v=.ref a->∃ob,s.heap.get? a=some ob/\ob.dict=none:=by
 cases x with
 | str z =>
  obtain ⟨t,rfl⟩:=r
  cases (show T="str" from ty)
  exact ⟨typeIs_str s z t,fun _ e=>nomatch e⟩
 | int i =>
  obtain ⟨t,rfl⟩:=r
  cases (show T="int" from ty)
  exact ⟨rB s i t,fun _ e=>nomatch e⟩
 | ref p =>
  cases r
  rcases ty with ⟨rfl,xs,hq⟩|⟨rfl,o,hk,hc,hd⟩|⟨rfl,hk⟩|⟨rfl,S,n,hk⟩
  ·obtain ⟨its,_,pl,_⟩:=I.list hq
   refine ⟨pl.isList.typeIs,fun a e=>?_⟩
   cases e
   obtain ⟨o,n,e,c,hd,_⟩:=pl
   exact ⟨o,e,hd⟩
  ·refine ⟨⟨o,I.kIn p o hk,hc⟩,fun a e=>?_⟩
   cases e
   exact ⟨o,I.kIn _ o hk,hd⟩
  ·have z:∃o,s.heap.get? p=some o/\o.ExactDict:=by
    rcases hk with ⟨kvs,hk⟩|⟨kvs,hk⟩
    ·obtain ⟨_,_,_,_,o,_,_,e,ex,_⟩:=I.hok p _ hk
     exact ⟨o,e,ex⟩
    ·obtain ⟨_,_,_,_,o,_,_,e,ex,_⟩:=I.hok p _ hk
     exact ⟨o,e,ex⟩
   obtain ⟨o,e,ex⟩:=z
   refine ⟨⟨o,e,ex.1⟩,fun a e2=>?_⟩
   cases e2
   exact ⟨o,e,ex.2.1⟩
  ·obtain ⟨o,_,_,_,e,ex,_⟩:=I.hok p _ hk
   refine ⟨⟨o,e,ex.1⟩,fun a e2=>?_⟩
   cases e2
   exact ⟨o,e,ex.2.1⟩
 | _=>exact F7 ty
noncomputable def tBM (K:m6) (T:String) (r:V->List V->Hp->VK->Prop) (to:TE) (t:TA):TE:=fun σ H Q=>to σ H fun x H1=>tyV K T x H1/\t σ H1 fun xs H2=>r x xs H2 Q
variable {o e:Expr}{es:List Expr}{to:TE}{t:TA}{name:Str}{apos cpos:Pos}{T id:String}{r:V->List V->Hp->VK->Prop}
theorem GI (pa:PlainAttrs T) (slot:Slot T name id) (hty:typeOf (.builtin id)=pure (.type "method_descriptor")) (hm:MtR X id r) (ho:PE X o to) (ha:PA X (e::es) t)
  (hbase:jF o name X.env (eval o X.env)=eval o X.env:=by rfl)
  (hfew:((aW cpos (A4 (e::es) X.env)).all (fun x=>!x.1)&&(backToKw cpos (Hn [] X.env)).all (fun x=>x.1.isSome)
   && decide ((e::es).length+([]:List oq).length+(if ([]:List oq).isEmpty then 0 else 1)<30))=true:=by rfl)
  (hline:(apos.endLine == cpos.line)=true:=by rfl) (hs:A4 (e::es) X.env=(false,eval e X.env)::A4 es X.env:=by rfl) (hplain:(aW cpos (A4 es X.env)).any (·.1)=false:=by rfl):
  PE X (.Call (.Attribute o name apos) (e::es) [] cpos) (tBM X.K T r to t):=by
 intro pins s σ H Q I h
 refine wpAny_Call_method_late hbase hfew hline rfl (W8 (ho pins s σ H _ I h) fun v s1 ⟨x,H1,I1,r1,ty,q1⟩=>?_)
 obtain ⟨h1,h2⟩:=HK I1 r1 ty
 refine ⟨T,id,pa,slot,hty,h1,h2,?_⟩
 have hA:=ha cpos pins s1 σ H1 _ I1 q1
 rw[hs] at hA ⊢
 refine cP (by show (false || (aW cpos (A4 es X.env)).any (·.1))=false;rw[hplain] <;> rfl) (kg ?_)
 exact W8 hA fun us s2 ⟨vs,H2,I2,r2,q2⟩=>hm pins s2 σ H2 x vs v us Q I2 r1 r2 q2
end
noncomputable def MtM (X:Cx) (id:String) (r:V->List V->Hp->VK->Prop):Prop :=
 ∀(pins:List (Addr × Obj)) (s:d9) (σ:St) (H:Hp) (x:V) (xs:List V) (v:b9) (us:List b9) (Q:VK),C8 X pins σ H s->K2 x v->K4 xs us->r x xs H Q ->
  j6 (r6 X.prog X.w) X.A (call (.builtin id) (v::us)) (EP X pins σ Q) X.xe s
theorem K4.one:∀{x:V}{us:List b9},K4 [x] us->∃u,us=[u]/\K2 x u
 | _,_,.cons r .nil=>⟨_,rfl,r⟩
section
variable {X:Cx}{pins:List (Addr × Obj)}{σ:St}{H:Hp}{s:d9}{l b:Addr}{xs ys zs:List V}
theorem C8.lset {its its':List b9}{n:Nat}{f:Array b9->Array b9}{t':Nat} (I:C8 X pins σ H s) (hH:H l=some (.lst xs))
  (e:s.heap.get? l=some { cls:=.type "list",data:=.seq its.toArray n }) (hf:f its.toArray=its'.toArray) (hv:K4 ys its') (hz:ys.length<=i0):
  C8 X pins σ (n8 H l (.lst ys)) { s with heap:=s.heap.update l (X3 f),toks:=t' }:=by
 have q:=PySem.IsL.update e f
 rw[hf] at q
 refine I.write (x:=l) (e:=l) (by rw[hH];exact trivial) (.inl rfl) (fun b' u hb hu=>(E8 s.heap (X3 f) (F6 hb)).trans hu) ⟨_,q⟩ ?_
 exact ⟨hz,its',_,hv,q⟩
theorem C8.lnew {its:List b9}{t':Nat} (I:C8 X pins σ H s) (hv:K4 ys its) (hz:ys.length<=i0):
  C8 X pins σ (n8 H s.heap.objs.size (.lst ys)) { s with heap:=s.heap.push { cls:=.type "list",data:=.seq its.toArray },toks:=t' } :=
 I.laid (fun _ _ q=>d7 _ q) (i6 _) ⟨hz,its,0,hv,j9 _ rfl⟩
theorem C8.fresh (I:C8 X pins σ H s):H s.heap.objs.size=none:=I.hok.fresh (i6 _)
theorem C8.lstM (I:C8 X pins σ H s) (hH:H l=some (.lst xs)):xs.length<=i0/\∃(its:List b9) (n:Nat),K4 xs its/\xs.length=its.length/\s.heap.get? l=some { cls:=.type "list",data:=.seq its.toArray n }:=by
 obtain ⟨z,its,n,r,e⟩:=I.hok l _ hH
 exact ⟨z,its,n,r,r.length,e⟩
end
section
variable {X:Cx}
noncomputable def Fw:V->List V->Hp->VK->Prop:=fun x vs H Q=>∃l xs y,x=.ref l/\vs=[y]/\H l=some (.lst xs)/\xs.length<i0/\Q .non (n8 H l (.lst (xs++[y])))
theorem AN:MtM X "list.append" Fw:=by
 intro pins s σ H x vs v us Q I rx rv h
 obtain ⟨l,xs,y,rfl,rfl,hH,hz,q⟩:=h
 cases rx
 obtain ⟨u,rfl,ru⟩:=rv.one
 obtain ⟨z,its,n,r,hl,e⟩:=I.lstM hH
 refine iJ F.slot_list_append ⟨_,e,rfl⟩ F.entry_list_append (F.args_list_append_2 _ _) (PySem.list_append l its.toArray n u (by rw[q9];lia)) ⟨e,?_⟩
 refine ⟨.non,_,I.lset (its':=its++[u]) hH e (by simp) (r.append (.cons ru .nil)) ?_,rfl,q⟩
 rw[w9,List.length_singleton]
 lia
noncomputable def rCat:R2:=fun x y H Q=>∃l b xs zs,x=.ref l/\y=.ref b/\H l=some (.lst xs)/\H b=some (.lst zs)/\xs.length+zs.length<=i0/\∀p,H p=none->Q (.ref p) (n8 H p (.lst (xs++zs)))
theorem ql:jQ X (Y2 .Add) rCat:=by
 intro pins s σ H x y v u Q I rx ry h
 obtain ⟨l,b,xs,zs,rfl,rfl,hH,hB,hz,q⟩:=h
 cases rx
 cases ry
 obtain ⟨z,its,n,r,hl,e⟩:=I.lstM hH
 obtain ⟨z2,its2,n2,r2,hl2,e2⟩:=I.lstM hB
 refine PySem.P.add_list e e2 ?_ (by rw[q9,q9];lia)
 have ea:its.toArray++its2.toArray=(its++its2).toArray:=by simp
 rw[ea]
 exact ⟨.ref _,_,I.lnew (t':=s.toks) (r.append r2) (by rw[w9];lia),rfl,q _ I.fresh⟩
end
section
variable {prog:j7}{w:u9}{A:A8}{E:b9->d9->Prop}{s:d9}
set_option maxRecDepth 100000 in
end
section
variable {X:Cx}
end
end L2
namespace Att
open PySem PySem.W PySem.Calls PyProof.Rows
theorem oh {P:Params}{h:Heap}:∀(ns:List Int) (vs:List b9),WellAll P h vs (ns.map WData.int)->az vs ns:=by
 intro ns
 induction ns with
 | nil =>
  intro vs w
  rw[yT] at w
  cases w
  exact .nil
 | cons n ns ih =>
  intro vs w
  rw[A9] at w
  cases w with
  | cons a b =>
   cases a
   exact .cons _ _ (ih _ b)
theorem Ay {l:OpenLaw}{n:Nat} (hn:l.most=some n) {P:Params}{h:Heap}{args:List WData}{vals:List b9}
  (hpre:l.row.toRowW.claim.pre args=true) (hwl:WellAll P h vals args):
  ∃a vs ns,vals=[n5 a]/\args=[WData.list (ns.map WData.int)]/\h.get? a=some { cls:=.type "list",data:=.seq vs.toArray }/\az vs ns/\ns.length<=n:=by
 have hsh:WShape.hasAll [] args [.list .int]=true:=(pre_splitW hpre).1
 have hc:l.pre.holds [] { args:=args }=true:=(pre_splitW hpre).2
 obtain ⟨d,r,rfl,h1,h2⟩:=hasAllW_cons hsh
 obtain rfl:=hasAllW_nil h2
 obtain ⟨xs,rfl,h3⟩:=hasW_list h1
 obtain ⟨ns,rfl⟩:=items_int h3
 have hlen:ns.length<=n:=by
  unfold OpenLaw.pre at hc
  have h4:(WTm.not (.lt (.lit (.int (n:Int))) (.len (.arg 0)))).holds [] { args:=[.list (ns.map .int)] }=true:=by
   have h4:=(holds_andW hc).1
   rw[hn] at h4
   exact h4
  have h5:=condW_of h4 (w_not (w_lt w_lit (w_len_list (w_arg rfl))))
  rw[d8] at h5
  refine Hu fun q=>?_
  have q':(n:Int)<((ns.length:Nat):Int):=by lia
  first
   | (rw[decide_eq_true q'] at h5;exact absurd h5 (by decide))
   | (simp at h5;lia)
 cases hwl with
 | cons w1 w2 =>
  cases w2
  cases w1 with
  | list ho hall=>exact ⟨_,_,ns,rfl,rfl,ho,oh ns _ hall,hlen⟩
theorem AD (l:OpenLaw) (args:List WData):l.row.toRowW.claim.post args (.bool true) args=true :=
 postW_of (r:=l.row.toRowW) (X:=(true == true))
  (show LU [] (.bool true) .bool=true by first|rfl|decide|simp[LU,WShape.arms,WShape.armsAll])
  (show (WTm.eq .res (.lit (.bool true))).value [] { args:=args,res:=some (.bool true),after:=args }=some (.bool (true == true)) from w_eq_bool (w_res rfl) w_lit) rfl
theorem wQ {l:OpenLaw}{n:Nat}{q:j7}{loose:List Str}{XP:(Str->Option b9)->Heap->Prop}{YP:u9->Heap->Prop}{d:DefRec}
  (hn:l.most=some n) (hdf:d.params.defaults=[])
  (call:∀(w:u9) (s₀ s₁:d9) (mg mb:Str->Option b9) (fa:Addr) (o:Obj) (pm cd doc:b9) (a:Addr) (vs:List b9) (ns:List Int),
   Ground q loose [] XP w s₀ mg mb s₁.heap->YP w s₁.heap ->
   s₁.heap.get? fa=some o->o.data=.func (docDef d.name d.params d.body d.scope pm cd doc)->s₁.heap.CodeRec cd d.name->mg d.name=some (.ref fa) ->
   s₁.heap.get? a=some { cls:=.type "list",data:=.seq vs.toArray }->az vs ns->ns.length<=n->s₁.gens=#[] ->
   dc (r6 l.prog w) tj (.call (.ref fa) ⟨[.ref a],[]⟩) (fun r s'=>r=.ok (.ret (.bool true))/\OldK s₁.heap s'.heap/\s'.os=s₁.os/\ju s'.gens) s₁):
  WalkO q loose XP YP l.row.toRowW d [] (fun f vs=>BV f vs):=by
 intro w s₀ s₁ mg mb G Y fa o pm cd doc dV kV ho hd hcd hD hmg hg args vals as hpre hlay hrd hwl hlo
 obtain rfl:dV=.none:=Dflts.none hD hdf
 obtain rfl:kV=.none:=Dflts.noKw hD
 obtain ⟨a,vs,ns,rfl,rfl,hobj,hints,hlen⟩:=Ay hn hpre hwl
 refine enter_call (gJ (call w s₀ s₁ mg mb fa o pm cd doc a vs ns G Y ho (fd_plain hd) hcd hmg hobj hints hlen hg) fun r s' hq=>?_)
 obtain ⟨rfl,h2,h3,h4⟩:=hq
 exact ⟨.inl ⟨.bool true,.bool true,[],rfl,fun _=>rfl,.bool true,AD l _,fun _=>⟨bL,fun _ hm=>(nomatch hm)⟩⟩,h2,h3,h4⟩
section
variable {prog:j7}{w:u9}{A:A8}{E:b9->d9->Prop}{s:d9}{K:Frag}
end
end Att
namespace L2
open PySem PySem.Spec PyProof.Rows
theorem rX:∀{vs:List b9}{ns:List Int},az vs ns->K4 (ns.map V.int) vs
 | _,_,.nil=>.nil
 | _,_,.cons n t h=>.cons ⟨t,rfl⟩ (rX h)
noncomputable abbrev KOf {K:m6}{h:Heap} (_:K.In h):m6:=K
noncomputable def eI (s:Stmt):dH:=match s with
 | .FunctionDef _ a _ _ _ _ _ _ _ _=>a
 | _=>{ posonlyargs:=[],args:=[],vararg:=none,kwonlyargs:=[],kw_defaults:=[],kwarg:=none,defaults:=[] }
noncomputable def bf (s:Stmt):List Stmt:=match s with
 | .FunctionDef _ _ b _ _ _ _ _ _ _=>b
 | _=>[]
noncomputable def w6 (s:Stmt):T5:=match s with
 | .FunctionDef _ _ _ _ _ _ sc _ _ _=>sc
 | _=>{ kind:=.function,names:=[],isGenerator:=false,isCoroutine:=false }
noncomputable abbrev dQ:Ad:=fun _ _ _ _ _ _=>False
noncomputable abbrev E0:XK:=fun _ _ _=>False
variable {X:Cx}
theorem KU :kG dQ X E0:=fun _ _ _ _ _ _ _ h=>h.elim
structure cH (K:m6) (x qual:Str) (st:Stmt) (f:Addr) (fd:C5):Prop where
 ex:∃(oc:b9) (od:Option Addr) (kV doc pm:b9) (an:Option Addr) (cdv ct:b9) (osl:Array (Option b9)),
  fd=gK x qual (eI st) (bf st) (w6 st) .none kV doc pm an cdv ct/\K.lookup f=some ⟨oc,od,.func fd,osl⟩/\jH K cdv qual=true
 kp:cJ K (.ref f)=true
section
variable {P:j7}{w:u9}{K:m6}{mg:Str->Option b9}{base:Heap}
variable {x qual:Str}{f:Addr}
theorem cH.ok {st:Stmt}{fd:C5}{N ps:List Str}{k:Nat}{sp:Sp} (F:cH K x qual st f fd) (S:D8 N ps (w6 st)) (len:∀vs H Q E,sp vs H Q E->vs.length=ps.length)
  (hbody:∀(cdv:b9) (A:A8) (outer:List Env) (s:d9) (H:Hp) (vs:List V) (Q:VK) (E:XK),cK k (A.deeper (ae qual (w6 st) s.heap.objs.size f cdv))->sp vs H Q E ->
   ∃t,rV (gy dQ P w K mg base N qual (w6 st) f cdv A outer s H E).nox (bf st) t/\t { nx:=fun _ H'=>Q .non H',rt:=Q } (start N vs) H):O5 P w K mg base dQ (k+1) f fd ps sp:=by
 obtain ⟨oc,od,kV,doc,pm,an,cdv,ct,osl,rfl,lk,hcd⟩:=F.ex
 refine Ea lk hcd S len fun A outer s H vs Q E hr hsp=>?_
 obtain ⟨t,h,q⟩:=hbody cdv A outer s H vs Q E hr hsp
 exact ⟨t,h.nox,q⟩
theorem cH.binds {st:Stmt}{fd:C5}{ps:List Str} (F:cH K x qual st f fd)
  (h:∀(kV doc pm:b9) (an:Option Addr) (cdv ct:b9) (us:List b9),us.length=ps.length->Aj (gK x qual (eI st) (bf st) (w6 st) .none kV doc pm an cdv ct) ⟨us,[]⟩=pure (ps.zip us)):jY K fd ps []:=by
 obtain ⟨oc,od,kV,doc,pm,an,cdv,ct,osl,rfl,lk,hcd⟩:=F.ex
 exact .all (h kV doc pm an cdv ct)
theorem yB {st:Stmt}{oc:b9}{od an:Option Addr}{osl:Array (Option b9)}{kV doc pm cdv ct:b9} (l:K.lookup f=some ⟨oc,od,.func (gK x qual (eI st) (bf st) (w6 st) .none kV doc pm an cdv ct),osl⟩)
  (c:jH K cdv qual=true) (k:cJ K (.ref f)=true):cH K x qual st f (gK x qual (eI st) (bf st) (w6 st) .none kV doc pm an cdv ct):=⟨⟨oc,od,kV,doc,pm,an,cdv,ct,osl,rfl,l,c⟩,k⟩
end
variable {A:A8}{k:Nat}
theorem lD (hr:cK k A):A.units+1<fA:=B8 (Nat.add_le_add_left (by decide:1<=64) _) hr.units
variable {n:Nat}
theorem so (h:n<=1000):n<i0:=B8 h (by decide)
section
variable {X:Cx}
theorem pv (i:Nat) {x:Str}{pos:Pos} (hN:X.N[i]?=some x:=by rfl) (hv:Lv X.env.scope x:=by first|exact A5 rfl|exact gD (A5 rfl)|exact gD (gD rfl)) (hd:(x == ("__debug__":Str))=false:=by decide)
  (hcd:(x == ("__classdict__":Str))=false:=by decide):PE X (.Name x pos) (U2 i):=ya hN hv hd hcd
end
variable {B:Prop}
theorem W0 {A:Prop} (h:B):if false=true then A else B:=by
 rw[if_neg t7]
 exact h
theorem V4 {A:Prop} (h:A):if true=true then A else B:=by
 rw[if_pos rfl]
 exact h
theorem yA {c A:Prop} [Decidable c] (h1:c->A) (h2:¬ c->B):if c then A else B:=by
 by_cases h:c
 ·rw[if_pos h]
  exact h1 h
 ·rw[if_neg h]
  exact h2 h
theorem GM {c A:Prop} [Decidable c] (hc:c) (h:B):if (!decide c)=true then A else B:=by
 rw[decide_eq_true hc]
 exact W0 h
noncomputable def i8 (H H':Hp):Prop:=∀b o,H b=some o->H' b=some o
theorem i8.refl (H:Hp):i8 H H:=fun _ _ h=>h
variable {H:Hp}
theorem i8.trans {H1 H2:Hp} (a:i8 H H1) (b:i8 H1 H2):i8 H H2:=fun c o h=>b c o (a c o h)
variable {H':Hp}{l:Addr}
theorem i8.free (e:i8 H H') (h:H' l=Kd):H l=Kd:=by
 cases q:H l with
 | none=>rfl
 | some o =>
  rw[e l o q] at h
  cases h
set_option maxHeartbeats 4000000
theorem dn:∀(names:List (Str × aD)) (n:Nat) (acc:List (Str × Addr)),R0 n names acc=R0 n names []++acc
 | [],n,acc=>rfl
 | (x,k)::r,n,acc=>by
  unfold R0
  split
  ·rw[dn r (n+1) ((x,n)::acc),dn r (n+1) [(x,n)],Y5]
   rfl
  ·exact dn r n acc
noncomputable def W9 (env:Env):List (Str × aD)->List (Str × Addr)->List (Str × Addr)
 | [],acc=>acc
 | (x,k)::r,acc=>if k == .free then W9 env r ((x,(env.cells.lookup x).getD 0)::acc) else W9 env r acc
theorem wI {env:Env} (f:Str × aD->List (Str × Addr)->Sem (ForInStep (List (Str × Addr))))
  (hf:∀name kind cs,f (name,kind) cs=if kind == .free then (do let a <- cellOf env name;pure (.yield ((name,a)::cs))) else pure (.yield cs)):
  ∀(names:List (Str × aD)) (acc:List (Str × Addr)),(∀x∈names,x.2=.free->∃c,env.cells.lookup x.1=some c)->forIn names acc f=pure (W9 env names acc)
 | [],acc,_=>by rw[fX];rfl
 | (x,k)::r,acc,h=>by
  have ih:=fun acc=>wI f hf r acc fun y hy=>h y (i3 _ hy)
  rw[fB,hf]
  unfold W9
  by_cases hk:(k == V8)=true
  ·rw[if_pos hk,if_pos hk]
   obtain ⟨c,hc⟩:=h (x,k) i4 (beq_iff_eq.mp hk)
   have hc':env.cells.lookup x=some c:=hc
   have:cellOf env x=pure c:=by unfold cellOf;rw[hc']
   rw[this,hc']
   simp only[pure_bind,Option.getD_some]
   exact ih _
  ·rw[if_neg hk,if_neg hk]
   simp only[pure_bind]
   exact ih _
variable {scope:T5}{env:Env}
theorem fV (h:∀x∈scope.names,x.2=.free->∃c,env.cells.lookup x.1=some c):closureFor scope env=pure (W9 env scope.names []):=by
 simp only[closureFor]
 rw[wI (env:=env) _ (fun name kind cs=>by cases hk:kind == V8 <;> simp[hk]) scope.names [] h]
 rfl
theorem gC {env:Env}:∀{names:List (Str × aD)}{acc:List (Str × Addr)}{x:Str}{c:Addr},(∀x∈names,x.2=.free->∃c,env.cells.lookup x.1=some c) ->
  (x,c)∈W9 env names acc->(x,c)∈acc ∨ env.cells.lookup x=some c
 | [],acc,x,c,_,hm=>.inl hm
 | (y,k)::r,acc,x,c,h,hm=>by
  have hr:∀x∈r,x.2=.free->∃c,env.cells.lookup x.1=some c:=fun z hz=>h z (i3 _ hz)
  unfold W9 at hm
  by_cases hk:(k == V8)=true
  ·rw[if_pos hk] at hm
   obtain ⟨d,hd⟩:=h (y,k) i4 (beq_iff_eq.mp hk)
   have hd':env.cells.lookup y=some d:=hd
   rcases gC hr hm with q|q
   ·rcases List.mem_cons.mp q with e|q
    ·cases e
     right;rw[hd'];rfl
    ·exact .inl q
   ·exact .inr q
  ·rw[if_neg hk] at hm
   exact gC hr hm
theorem mP {env:Env}:∀{names:List (Str × aD)}{acc:List (Str × Addr)}{p:Str × Addr},p∈acc->p∈W9 env names acc
 | [],_,_,h=>h
 | (y,k)::r,acc,p,h=>by
  unfold W9
  split
  ·exact mP (i3 _ h)
  ·exact mP h
theorem eV {env:Env}:∀{names:List (Str × aD)}{acc:List (Str × Addr)}{x:Str},(x,V8)∈names->∃c,(x,c)∈W9 env names acc
 | [],_,_,h=>by cases h
 | (y,k)::r,acc,x,h=>by
  unfold W9
  rcases List.mem_cons.mp h with e|h
  ·cases e
   rw[if_pos (by rfl)]
   exact ⟨_,mP i4⟩
  ·split
   ·exact eV h
   ·exact eV h
theorem bB {α:Type}:∀{l:List (Str × α)}{x:Str}{c:α},(x,c)∈l->∃d,l.lookup x=some d
 | (k,v)::r,x,c,h=>by
  rw[E5]
  cases hb:x == k with
  | true=>exact ⟨v,rfl⟩
  | false =>
   rcases List.mem_cons.mp h with e|h
   ·cases e;simp at hb
   ·exact bB h
theorem fu {α:Type}:∀{l l':List (Str × α)}{x:Str}{c:α},(l++l').lookup x=some c->l.lookup x=some c ∨ (l.lookup x=none/\l'.lookup x=some c)
 | [],l',x,c,h=>.inr ⟨rfl,h⟩
 | (k,v)::r,l',x,c,h=>by
  rw[W7,E5] at h
  rw[E5]
  cases hb:x == k with
  | true=>rw[hb] at h;exact .inl h
  | false=>rw[hb] at h;exact fu h
theorem Z6 {α:Type}:∀{l l':List (Str × α)}{x:Str}{c:α},l.lookup x=some c->(l++l').lookup x=some c
 | [],l',x,c,h=>by cases h
 | (k,v)::r,l',x,c,h=>by
  rw[W7,E5]
  rw[E5] at h
  cases hb:x == k with
  | true=>rw[hb] at h;exact h
  | false=>rw[hb] at h;exact Z6 h
theorem bp {α:Type}:∀{l l':List (Str × α)}{x:Str},l.lookup x=none->(l++l').lookup x=l'.lookup x
 | [],l',x,h=>rfl
 | (k,v)::r,l',x,h=>by
  rw[W7,E5]
  rw[E5] at h
  cases hb:x == k with
  | true=>rw[hb] at h;cases h
  | false=>rw[hb] at h;exact bp h
theorem ft {env:Env}:∀(names:List (Str × aD)) (x:Str),
  (names.map fun (n,k)=>if (k == V8&&env.scope.kind == .function&&env.kindOf n == some .cell) then (n,du) else (n,k)).lookup x
   =(names.lookup x).map fun k=>if (k == V8&&env.scope.kind == .function&&env.kindOf x == some .cell)=true then du else k
 | [],x=>rfl
 | (n,k)::r,x=>by
  have ih:=ft (env:=env) r x
  rw[A9]
  cases hx:x == n with
  | true =>
   have e:x=n:=beq_iff_eq.mp hx
   subst e
   by_cases hc:(k == V8&&env.scope.kind == .function&&env.kindOf x == some .cell)=true
   ·simp only[hc,if_true,E5,hx,ar]
   ·simp only[hc,E5,hx,ar]
    simp
  | false =>
   show List.lookup x ((if (k == V8&&env.scope.kind == .function&&env.kindOf n == some .cell)=true then (n,du) else (n,k))::_)=_
   by_cases hc:(k == V8&&env.scope.kind == .function&&env.kindOf n == some .cell)=true
   ·rw[if_pos hc]
    simp only[E5,hx]
    exact ih
   ·rw[if_neg hc]
    simp only[E5,hx]
    exact ih
theorem ip:∀{names:List (Str × aD)}{n:Nat}{acc:List (Str × Addr)}{x:Str}{d:Addr},(x,d)∈R0 n names acc->(x,d)∈acc ∨ (x,du)∈names
 | [],_,_,_,_,h=>.inl h
 | (y,k)::r,n,acc,x,d,h=>by
  unfold R0 at h
  by_cases hk:(k == du)=true
  ·rw[if_pos hk] at h
   have e:k=.cell:=beq_iff_eq.mp hk
   subst e
   rcases ip h with q|q
   ·rcases List.mem_cons.mp q with z|z
    ·cases z;exact .inr i4
    ·exact .inl z
   ·exact .inr (i3 _ q)
  ·rw[if_neg hk] at h
   rcases ip h with q|q
   ·exact .inl q
   ·exact .inr (i3 _ q)
noncomputable def lp (scope:T5):Bool:=scope.names.all fun x=>scope.names.lookup x.1 == some x.2
theorem ji (h:lp scope=true) {x:Str × aD} (hx:x∈scope.names):scope.names.lookup x.1=some x.2:=beq_iff_eq.mp (List.all_eq_true.mp h x hx)
variable {x:Str}
theorem tY (h:(sW scope env).names.lookup x=some .cell ∨ (sW scope env).names.lookup x=some .free):
  scope.names.lookup x=some .cell ∨ scope.names.lookup x=some .free:=by
 unfold sW at h
 rw[ft] at h
 cases e:scope.names.lookup x with
 | none=>rw[e] at h;rcases h with h|h <;> cases h
 | some k =>
  rw[e,ar] at h
  by_cases hc:(k == V8&&env.scope.kind == .function&&env.kindOf x == some .cell)=true
  ·rw[y6,y6] at hc
   exact .inr (by rw[beq_iff_eq.mp hc.1.1])
  ·simp only[hc] at h
   simpa using h
variable {M:lQ}{E:b9->d9->Prop}{s:d9}{cl:List (Str × Addr)}
theorem vZ {globals:Addr}{qual:Str}{Q:Env->d9->Prop}
  (h:Q (newEnv scope s.heap.objs.size globals (R0 (s.heap.objs.size+1) scope.names []++cl) qual none .none (some env) kR)
   { s with heap:=jZ (s.heap.push { cls:=.type "dict",data:=.dict #[] }) scope.names }):
  j6 M A (Ag scope globals cl [] qual none .none (some env)) Q E s:=by
 simp only[Ag,BB,if_true]
 refine b7 (wpAny_alloc ?_)
 refine b7 (wpAny_layCells _ (fun name kind cells=>by cases hkc:kind == du <;> simp[hkc]) _ _ _ _ ?_)
 rw[show ({ s with heap:=s.heap.push { cls:=.type "dict",data:=.dict #[] } }:d9).heap.objs.size=s.heap.objs.size+1 from D3 ..,dn]
 exact b7 (d6 (d6 h))
noncomputable def Cx.comp (X:Cx) (scope:T5) (N:List Str) (s:d9) (H:Hp) (ex:List Addr):Cx where
 prog:=X.prog
 w:=X.w
 K:=X.K
 mg:=X.mg
 base:=X.base
 A:=X.A
 N:=N
 s₀:=s
 H₀:=H
 env:=compEnvC scope (R0 (s.heap.objs.size+1) scope.names []++W9 X.env scope.names []) s.heap.objs.size X.env
 outer:=X.stack
 stack:=X.stack
 ex:=ex
 fn:=fun x=>scope.names.lookup x == some .cell
 calm:=X.calm
 pn:=[]
 xe:=fun _ _=>False
noncomputable def iP (ix:List (Option Nat)) (σ:St):St:=ix.map fun o=>o.bind fun i=>(σ[i]?).join
noncomputable def jj (scope:T5) (N:List Str):List Str->List (Option Nat)->Bool
 | [],[]=>true
 | _::N',none::ix=>jj scope N N' ix
 | x::N',some i::ix=>N[i]? == some x&&scope.names.lookup x == some .free&&jj scope N N' ix
 | _,_=>false
theorem lr {scope:T5}{N:List Str}:∀{N':List Str}{ix:List (Option Nat)},jj scope N N' ix=true->ix.length=N'.length
 | [],[],_=>rfl
 | _::N',none::ix,h=>by simp[lr (N':=N') (ix:=ix) h]
 | x::N',some i::ix,h=>by
  unfold jj at h
  rw[y6] at h
  simp[lr (N':=N') (ix:=ix) h.2]
 | [],_::_,h=>by simp[jj] at h
 | _::_,[],h=>by simp[jj] at h
theorem lu {scope:T5}{N:List Str}:∀{N':List Str}{ix:List (Option Nat)}{j i:Nat},jj scope N N' ix=true->ix[j]?=some (some i) ->
  ∃x,N'[j]?=some x/\N[i]?=some x/\scope.names.lookup x=some .free
 | [],[],j,i,_,e=>by simp at e
 | y::N',none::ix,0,i,h,e=>by simp at e
 | y::N',none::ix,j+1,i,h,e=>by
  obtain ⟨x,h1,h2⟩:=lu (N':=N') (ix:=ix) (j:=j) (i:=i) h (by simpa using e)
  exact ⟨x,by simpa using h1,h2⟩
 | y::N',some k::ix,0,i,h,e=>by
  unfold jj at h
  rw[y6,y6] at h
  simp at e
  subst e
  exact ⟨y,rfl,beq_iff_eq.mp h.1.1,beq_iff_eq.mp h.1.2⟩
 | y::N',some k::ix,j+1,i,h,e=>by
  unfold jj at h
  rw[y6] at h
  obtain ⟨x,h1,h2⟩:=lu (N':=N') (ix:=ix) (j:=j) (i:=i) h.2 (by simpa using e)
  exact ⟨x,by simpa using h1,h2⟩
 | [],_::_,_,_,h,_=>by simp[jj] at h
 | _::_,[],_,_,h,_=>by simp[jj] at h
noncomputable def bO (scope:T5) (env:Env):Bool:=scope.names.all fun x=>!(x.2 == .free) || env.kindOf x.1 == some .cell || env.kindOf x.1 == some .free
theorem ie (h:bO scope env=true) {x:Str × aD} (hx:x∈scope.names) (hk:x.2=.free):env.kindOf x.1=some .cell ∨ env.kindOf x.1=some .free:=by
 have:=List.all_eq_true.mp h x hx
 rw[hk] at this
 simpa using this
section
variable {X:Cx}{pins:List (Addr × Obj)}{σ:St}{H:Hp}{s:d9}{scope:T5}{N:List Str}{ix:List (Option Nat)}{ex:List Addr}
theorem C8.closed (I:C8 X pins σ H s) (hf:bO scope X.env=true):∀x∈scope.names,x.2=.free->∃c,X.env.cells.lookup x.1=some c :=
 fun x hx hk=>I.ok.has x.1 (ie hf hx hk)
theorem vS {j:Nat}{v:V} (h:(iP ix σ)[j]?=some (some v)):∃i,ix[j]?=some (some i)/\σ[i]?=some (some v):=by
 unfold iP at h
 rw[w5] at h
 cases e:ix[j]? with
 | none=>rw[e] at h;cases h
 | some o =>
  rw[e] at h
  cases o with
  | none=>cases h
  | some i =>
   refine ⟨i,rfl,?_⟩
   have h':(σ[i]?).join=some v:=C1 h
   cases q:σ[i]? with
   | none=>rw[q] at h';cases h'
   | some z=>rw[q] at h';exact congrArg some h'
theorem C8.comp (I:C8 X pins σ H s) (hk:scope.kind=.function) (hnm:lp scope=true) (hf:bO scope X.env=true) (hx:jj scope X.N N ix=true)
  (hex:∀b∈ex,H b=none/\b≠X.env.locals/\b ∉ X.fs/\(b∈X.ex ∨ X.s₀.heap.objs.size<=b)/\(∀x c,X.env.cells.lookup x=some c->c≠b)/\b<s.heap.objs.size):
  C8 (X.comp scope N s H ex) [] (iP ix σ) H { s with heap:=jZ (s.heap.push { cls:=.type "dict",data:=.dict #[] }) scope.names }:=by
 have hcl:=I.closed hf
 have hkeep:∀b o,s.heap.get? b=some o->(jZ (s.heap.push { cls:=.type "dict",data:=.dict #[] }) scope.names).get? b=some o:=fun b o e=>xw _ _ b o (d7 _ e)
 have ok:=cellsFrom_ok scope.names (s.heap.push { cls:=.type "dict",data:=.dict #[] }) (s.heap.objs.size+1) [] ⟨fun _ _ hm=>(nomatch hm),bL⟩ (by rw[D3];exact i6 _)
 rw[D3] at ok
 have hns:(jZ (s.heap.push { cls:=.type "dict",data:=.dict #[] }) scope.names).Ns s.heap.objs.size (fun _=>none):=(Heap.Ns.new s.heap (.type "dict")).keeps (xw _ _)
 have cells:∀x c,(X.comp scope N s H ex).env.cells.lookup x=some c->(x,c)∈R0 (s.heap.objs.size+1) scope.names [] ∨ X.env.cells.lookup x=some c:=fun x c e=>by
  have e':(R0 (s.heap.objs.size+1) scope.names []++W9 X.env scope.names []).lookup x=some c:=e
  rcases fu e' with q|⟨_,q⟩
  ·exact .inl (mem_of_lookup q)
  ·rcases gC hcl (mem_of_lookup q) with z|z
   ·cases z
   ·exact .inr z
 have old:∀x c,X.env.cells.lookup x=some c->c+1<=s.heap.objs.size:=fun x c e=>let ⟨v,q⟩:=I.cell x c e;q.lt
 have own:∀x c,(x,c)∈R0 (s.heap.objs.size+1) scope.names []->s.heap.objs.size+1<=c:=fun x c e=>(ok.empty x c e).2
 refine ⟨⟨I.ok.mod,hk,I.ok.glob,I.ok.blt,i6 _,fun x y c h1 h2=>?_,fun x h1=>?_,fun x c h1 h2=>?_,I.ok.hd,I.ok.frames,.inl rfl,fun b hb=>⟨?_,fun x c e=>?_⟩,I.bs,j0 I.ok.bsz I.sz,fun b o e hb=>?_,fun b hb hb'=>?_,I.stack,I.stkFree⟩,
  rfl,I.bare,Un.kept hkeep,⟨_,hns,fun j x v h1 h2 h3=>?_⟩,fun x c e=>?_,I.hok.fresh (i6 _),fun x c e=>?_,fun p hp=>absurd (show p∈([]:List (Addr × Obj)) from hp) (by simp),I.hok.kept hkeep,?_⟩
 ·rcases cells x c h1 with q1|q1 <;> rcases cells y c h2 with q2|q2
  ·exact name_of_addr ok.apart q1 q2
  ·exact absurd (j0 (own _ _ q1) (j0 (Y9 _) (old _ _ q2))) (BW _)
  ·exact absurd (j0 (own _ _ q2) (j0 (Y9 _) (old _ _ q1))) (BW _)
  ·exact I.ok.inj x y c q1 q2
 ·have h1':scope.names.lookup x=some .cell ∨ scope.names.lookup x=some .free:=tY h1
  rcases h1' with q|q
  ·obtain ⟨c,e⟩:=lH (n:=s.heap.objs.size+1) (sc:=scope) q
   exact ⟨c,Z6 e⟩
  ·obtain ⟨c,e⟩:=eV (env:=X.env) (acc:=[]) (mem_of_lookup q)
   cases z:(R0 (s.heap.objs.size+1) scope.names []).lookup x with
   | some d=>exact ⟨d,Z6 z⟩
   | none =>
    obtain ⟨d,e'⟩:=bB e
    exact ⟨d,(bp z).trans e'⟩
 ·have h1':scope.names.lookup x=some .cell:=beq_iff_eq.mp h1
  obtain ⟨d,e⟩:=lH (n:=s.heap.objs.size+1) (sc:=scope) h1'
  have e':(R0 (s.heap.objs.size+1) scope.names []++W9 X.env scope.names []).lookup x=some c:=h2
  rw[Z6 e] at e'
  cases e'
  exact j0 (Y9 _) (own _ _ (mem_of_lookup e))
 ·exact n0 (hex b hb).2.2.2.2.2
 ·rcases cells x c e with q|q
  ·exact B9 (A3 (hex b hb).2.2.2.2.2 (j0 (Y9 _) (own _ _ q)))
  ·exact (hex b hb).2.2.2.2.1 x c q
 ·rcases (hex b hb).2.2.2.1 with z|z
  ·exact I.ok.noex b o e z
  ·exact absurd (A3 (i5 e) (j0 I.ok.bsz z)) (aR _)
 ·rcases List.mem_cons.mp (I.stkSub b hb') with z|z
  ·exact (hex b hb).2.1 z
  ·exact (hex b hb).2.2.1 z
 ·obtain ⟨i,e1,e2⟩:=vS h2
  obtain ⟨y,f1,f2,f3⟩:=lu hx e1
  have exy:x=y:=by
   have h1':N[j]?=some x:=h1
   rw[f1] at h1';exact (C1 h1').symm
  subst exy
  obtain ⟨m,hm,hl⟩:=I.loc
  have kx:=ie hf (mem_of_lookup f3) rfl
  have vis:Lv X.env.scope x:=by
   rcases kx with k|k
   ·exact .inr (.inl k)
   ·exact .inr (.inr k)
  obtain ⟨u,ru,l⟩:=hl i x v f2 e2 vis
  refine ⟨u,ru,.inr ?_⟩
  have hv:(sW scope X.env).names.lookup x=some .cell ∨ (sW scope X.env).names.lookup x=some .free:=by
   unfold sW
   rw[ft,f3,ar]
   split
   ·exact .inl rfl
   ·exact .inr rfl
  refine ⟨hv,?_⟩
  rcases l with ⟨k,_⟩|⟨k,c,ec,z⟩
  ·have k':X.env.kindOf x=some .local:=k
   rcases kx with q|q <;> rw[q] at k' <;> cases k'
  ·obtain ⟨d,ed⟩:=eV (env:=X.env) (acc:=[]) (mem_of_lookup f3)
   have nocell:(R0 (s.heap.objs.size+1) scope.names []).lookup x=none ∨ ∃d,(R0 (s.heap.objs.size+1) scope.names []).lookup x=some d:=by
    cases (R0 (s.heap.objs.size+1) scope.names []).lookup x with
    | none=>exact .inl rfl
    | some d=>exact .inr ⟨d,rfl⟩
   rcases nocell with q|⟨d',q⟩
   ·obtain ⟨d2,ed2⟩:=bB ed
    have hd2:X.env.cells.lookup x=some d2:=by
     rcases gC hcl (mem_of_lookup ed2) with z|z
     ·cases z
     ·exact z
    rw[ec] at hd2
    cases hd2
    exact ⟨c,(bp q).trans ed2,z.keeps hkeep⟩
   ·-- a name is not both free and a cell of the block
    exfalso
    rcases ip (mem_of_lookup q) with z|z
    ·cases z
    ·have z':=ji hnm z
     rw[f3] at z'
     cases z'
 ·rcases cells x c e with q|q
  ·exact ⟨none,(ok.empty x c q).1⟩
  ·obtain ⟨v,z⟩:=I.cell x c q
   exact ⟨v,z.keeps hkeep⟩
 ·rcases cells x c e with q|q
  ·exact I.hok.fresh (j0 (Y9 _) (own x c q))
  ·exact I.freeC x c q
 ·show (iP ix σ).length=N.length
  unfold iP
  rw[d8]
  exact lr hx
end
section
variable {prog:j7}{w:u9}{A:A8}{R:Fd->d9->Prop}{s:d9}
theorem uJ {elt target iter:Expr}{ifs:List Expr}{scope:T5}{pos:Pos}{it acc:b9}{env:Env} (I:Nat->d9->Prop)
  (turn:∀n s,I n s->j6 (r6 prog w) A (Y1 it) (fun r s₁=>match r with
   | none=>R (.ok .next) s₁
   | some v=>j6 (r6 prog w) A (lO target it v) (fun _ s₁'=>j6 (r6 prog w) A (rD target env v) (fun _ s₂ =>
     j6 (r6 prog w) A (forIn ifs true fun c r=>if r=true then do let ok <- JU c env (eval c env);pure (bG ok) else pure (bG r)) (fun ok s₃ =>
      if ok=true then j6 (r6 prog w) A (eval elt env) (fun x s₄ =>
       j6 (r6 prog w) A (call (.builtin "list.append") [acc,x]) (fun _ s₅=>∃m,m<n/\I m s₅) (fun _ _=>False) s₄) (fun _ _=>False) s₃
      else ∃m,m<n/\I m s₃) (fun _ _=>False) s₂) (fun _ _=>False) s₁') (fun _ _=>False) s₁) (fun _ _=>False) s)
  (n:Nat) (h:I n s):
  dc (r6 prog w) A (.compLoop (.ListComp elt [⟨target,iter,ifs,0⟩] scope pos) 0 it acc env) R s:=by
 refine codeAny_loop rfl I (fun n s hI=>?_) n h
 show j6 _ A ((compTurn (.ListComp elt [⟨target,iter,ifs,0⟩] scope pos) 0 it acc env).onRaise (fun x=>do EC x env;theTreesLotGoes x)) _ _ s
 refine wpAny_noted ?_
 rw[compTurn_list]
 refine b7 (fJ (b7 (F5 (turn n s hI) (fun r s₁ h₁=>?_) fun _ _ h'=>h'.elim)))
 cases r with
 | none=>exact d6 h₁
 | some v =>
  refine b7 (F5 h₁ (fun _ s₁' h₁'=>?_) fun _ _ h'=>h'.elim)
  refine b7 (F5 h₁' (fun _ s₂ h₂=>b7 (F5 h₂ (fun ok s₃ h₃=>?_) fun _ _ h'=>h'.elim)) fun _ _ h'=>h'.elim)
  cases ok with
  | false=>exact d6 ⟨rfl,h₃⟩
  | true =>
   exact b7 (b7 (F5 h₃ (fun x s₄ h₄=>b7 (F5 h₄ (fun _ s₅ h₅=>d6 (d6 ⟨rfl,h₅⟩)) fun _ _ h'=>h'.elim)) fun _ _ h'=>h'.elim))
end
noncomputable def Wk (σ σ2:St):Prop:=σ.length=σ2.length/\∀(i:Nat) v,σ[i]?=some (some v)->σ2[i]?=some (some v)
theorem Wk.set {σ:St}{i:Nat}{v:V} (h:σ[i]?=some none ∨ σ[i]?=none):Wk σ (σ.set i (some v)):=by
 refine ⟨by simp,fun j u e=>?_⟩
 by_cases hj:j=i
 ·subst hj
  rcases h with h|h <;> rw[h] at e <;> cases e
 ·rw[N8 (F6 hj)]
  exact e
section
variable {X:Cx}{pins:List (Addr × Obj)}{σ:St}{H H':Hp}{s s':d9}{scope:T5}{N:List Str}{ix:List (Option Nat)}{fp:List Addr}
noncomputable abbrev aP (s:d9):d9:={ s with heap:=s.heap.push { cls:=.type "list",dict:=none,data:=.seq ([]:List b9).toArray } }
theorem bD (s:d9):(aP s).heap.objs.size=s.heap.objs.size+1:=D3 ..
theorem C8.comp_end {pins':List (Addr × Obj)}{σ':St}{ys:List V}{its:List b9}{n:Nat}{h':Heap} (I:C8 X pins σ H s) (J:C8 (X.comp scope N (aP s) H (s.heap.objs.size::fp)) pins' σ' H' s') (hfp:∀b∈fp,oj X pins H b)
  (hD:H' s.heap.objs.size=none) (hl:s'.heap.get? s.heap.objs.size=some { cls:=.type "list",data:=.seq its.toArray n }) (hv:K4 ys its) (hz:ys.length<=i0)
  (hs:G2 (aP s).heap.objs.size s'.heap h'):C8 X pins σ (n8 H' s.heap.objs.size (.lst ys)) { s' with heap:=h' }:=by
 have oldC:∀b,b<s.heap.objs.size->b≠(aP s).heap.objs.size:=fun b hb=>by rw[bD];exact n0 (M0 hb)
 have DC:s.heap.objs.size≠(aP s).heap.objs.size:=by rw[bD];exact n0 (U1 _)
 have pushed:∀b o,s.heap.get? b=some o->(aP s).heap.get? b=some o:=fun b o e=>d7 _ e
 have nex:∀b o,s.heap.get? b=some o->b ∉ fp->b ∉ (X.comp scope N (aP s) H (s.heap.objs.size::fp)).ex:=fun b o e hb z=>by
  rcases List.mem_cons.mp (show b∈s.heap.objs.size::fp from z) with z|z
  ·rw[z] at e;exact absurd (i5 e) (aR _)
  ·exact hb z
 have U:=J.base
 have un:Un (lG X.stack) fp H (n8 H' s.heap.objs.size (.lst ys)) s.heap h':=by
  refine ⟨fun b o e n hb hx=>?_,fun b o e n hb hx=>?_,fun b o e n hx=>?_,fun b o e hx=>?_,fun b xs e=>?_,fun b o u e=>?_,fun b ps e=>?_⟩
  ·exact (hs.2 b (oldC b (i5 e))).trans (U.keep b o (pushed b o e) n hb (nex b o e hx))
  ·obtain ⟨sl,q⟩:=U.slot b o (pushed b o e) n hb (nex b o e hx)
   exact ⟨sl,(hs.2 b (oldC b (i5 e))).trans q⟩
  ·rw[A1 (n0 (i5 e))]
   exact U.free b o (pushed b o e) n (nex b o e hx)
  ·obtain ⟨o',q⟩:=U.there b o (pushed b o e) (nex b o e hx)
   exact ⟨o',(hs.2 b (oldC b (i5 e))).trans q⟩
  ·have q:=U.tups b xs e
   rw[A1 (v5 q hD)];exact q
  ·have q:=U.frzs b o u e
   rw[A1 (v5 q hD)];exact q
  ·obtain ⟨m,q⟩:=U.tbls b ps e
   exact ⟨m,by rw[A1 (v5 q hD)];exact q⟩
 have hC:H' (aP s).heap.objs.size=none:=J.free
 have hok:cG X.prog X.w (n8 H' s.heap.objs.size (.lst ys)) h':=fun b u e=>by
  by_cases hb:b=s.heap.objs.size
  ·subst hb
   rw[f9] at e;cases e
   exact ⟨hz,its,n,hv,(hs.2 _ DC).trans hl⟩
  ·rw[A1 hb] at e
   refine (J.hok b u e).stay (fun c v hc q=>(hs.2 c ?_).trans q) (fun c q=>by rw[A1 (v5 q hD)];exact q) fun c xs q=>by rw[A1 (v5 q hD)];exact q
   rintro rfl
   rcases hc with z|z
   ·rw[<- z,hC] at e;cases e
   ·rw[hC] at z;cases z
 exact I.call' (s':={ s' with heap:=h' }) (ch:=fp) J.os un hok J.bare fun b hb=>⟨(hfp b hb).2.2.2.1,(hfp b hb).2.1,(hfp b hb).2.2.2.2.1,(hfp b hb).2.2.2.2.2⟩
end
section
variable {X:Cx}{scope:T5}{N:List Str}{ix:List (Option Nat)}{elt target iter:Expr}{ifs:List Expr}{pos:Pos}{wi:TI}{g:TG}{te:TE}{tc:TT}
noncomputable def Et (X:Cx) (ifs:List Expr) (t:TT):Prop :=
 ∀(pins:List (Addr × Obj)) (s:d9) (σ:St) (H:Hp) (Q:Bool->Hp->Prop),C8 X pins σ H s->t σ H Q ->
  j6 (r6 X.prog X.w) X.A (forIn ifs true fun c r=>if r=true then do let ok <- JU c X.env (eval c X.env);pure (bG ok) else pure (bG r)) (TP X pins σ Q) X.xe s
noncomputable def X4:TT:=fun _ H Q=>Q true H
theorem O1:Et X [] X4:=fun _ _ _ H _ I h=>wpAny_tests_nil ⟨H,I,h⟩
theorem CZ {c:Expr} (h:PT X c tc):Et X [c] tc:=fun pins s σ H Q I hq=>wpAny_tests_one (h pins s σ H Q I hq)
noncomputable def EA (J:It) (σ0:St) (g:TG) (tc:TT) (te:TE) (H1:Hp) (F:List V->Hp->Prop):Prop:=∃W:Nat->Nat->List V->Hp->Prop,(∃m,W 0 m [] H1)/\∀i m ys H2,W i m ys H2->ys.length<=i0 /\
 ((J.stop i H2/\F ys H2) ∨
  (J.go i H2/\∃(Ny:V->Hp->Prop) (Nn:Hp->Prop),(∀y H,Ny y H->∃m',m'<m/\W (i+1) m' (ys++[y]) H)/\(∀H,Nn H->∃m',m'<m/\W (i+1) m' ys H) /\
    ∀x H3,J.yld i H2 x H3->g x σ0 H3 fun σ2 H4=>Wk σ0 σ2/\tc σ2 H4 fun b H5=>if b=true then te σ2 H5 Ny else Nn H5))
theorem wF {pins:List (Addr × Obj)}{σ:St}{H:Hp}{s:d9}{it:Addr}{fp:List Addr}{tn:Nat->Heap->Prop}{J:It}{F:List V->Hp->Prop}{E:b9->d9->Prop}{RR:b9->Addr->Fd->d9->Prop}
  (hc:X.calm=true) (hk:scope.kind=.function) (hnm:lp scope=true) (hf:bO scope X.env=true) (hx:jj scope X.N N ix=true)
  (hg:∀s H ex,PG (X.comp scope N s H ex) target g) (ht:∀s H ex,Et (X.comp scope N s H ex) ifs tc) (he:PE (X.comp scope N (aP s) H (s.heap.objs.size::fp)) elt te)
  (I:C8 X pins σ H s) (T:rS X.prog X.w X.K target J fp it tn) (st:tn 0 s.heap) (hfp:∀b∈fp,oj X pins H b) (B:EA J (iP ix σ) g tc te H F)
  (fin:∀(ys:List V) (H':Hp) (s':d9) (σ':St) (its:List b9) (n:Nat),C8 (X.comp scope N (aP s) H (s.heap.objs.size::fp)) [] σ' H' s'->H' s.heap.objs.size=none ->
   s'.heap.get? s.heap.objs.size=some { cls:=.type "list",data:=.seq its.toArray n }->K4 ys its->ys.length<=i0->F ys H'->RR (.ref s.heap.objs.size) (aP s).heap.objs.size (.ok .next) s'):
  j6 (r6 X.prog X.w) X.A (newList []) (fun acc s₃=>j6 (r6 X.prog X.w) X.A (Ag scope X.env.globals (W9 X.env scope.names []) [] X.env.qual none .none (some X.env)) (fun cenv s₄ =>
   dc (r6 X.prog X.w) X.A (.compStart (.ListComp elt [⟨target,iter,ifs,0⟩] scope pos) 0 (.ref it) acc { cenv with scope:=sW scope X.env }) (RR acc cenv.locals) s₄) E s₃) E s:=by
 refine B6 (vZ ?_) (by show ([]:List b9).toArray.size<=i0;exact v8 _)
 obtain ⟨W,⟨m0,w0⟩,turn⟩:=B
 have I1:C8 X pins σ H (aP s):=I.kept (t':=s.toks) fun b o e=>d7 _ e
 have fpLt:∀b∈fp,b<s.heap.objs.size:=fun b hb=>let ⟨o,e,_⟩:=T.obj 0 _ st b hb;i5 e
 have accE:(aP s).heap.get? s.heap.objs.size=some { cls:=.type "list",dict:=none,data:=.seq ([]:List b9).toArray }:=j9 _ rfl
 have fD:oj X pins H s.heap.objs.size:=I.fpOk (i6 _) (I.hok.fresh (i6 _))
 have J0:C8 (X.comp scope N (aP s) H (s.heap.objs.size::fp)) [] (iP ix σ) H _:=I1.comp (N:=N) (ix:=ix) (ex:=s.heap.objs.size::fp) hk hnm hf hx fun b hb=>by
  rcases List.mem_cons.mp hb with z|z
  ·subst z
   exact ⟨fD.1,fD.2.1,fD.2.2.1,fD.2.2.2.1,fD.2.2.2.2.1,by rw[bD];exact U1 _⟩
  ·obtain ⟨f0,f1,f2,f3,f4,_⟩:=hfp b z
   exact ⟨f0,f1,f2,f3,f4,by rw[bD];exact M0 (fpLt b z)⟩
 have keep0:∀b o,(aP s).heap.get? b=some o->(jZ ((aP s).heap.push { cls:=.type "dict",data:=.dict #[] }) scope.names).get? b=some o:=fun b o e=>xw _ _ b o (d7 _ e)
 have st0:tn 0 (jZ ((aP s).heap.push { cls:=.type "dict",data:=.dict #[] }) scope.names):=T.keep 0 _ _ st fun b hb o e=>keep0 b o (d7 _ e)
 have exOk:∀b∈s.heap.objs.size::fp,b≠(X.comp scope N (aP s) H (s.heap.objs.size::fp)).env.locals/\b ∉ (X.comp scope N (aP s) H (s.heap.objs.size::fp)).fs /\
   ∀x c,(X.comp scope N (aP s) H (s.heap.objs.size::fp)).env.cells.lookup x=some c->c≠b:=fun b hb=>⟨(J0.ok.exf b hb).1,J0.ok.exfs b hb,(J0.ok.exf b hb).2⟩
 have stat:∀{H':Hp}{o:Obj},(∀b∈fp,H' b=none)->∀b∈fp,oj (X.comp scope N (aP s) H (s.heap.objs.size::fp)) [(s.heap.objs.size,o)] H' b:=fun {H' o} hn b hb=>by
  obtain ⟨e1,e2,e3⟩:=exOk b (i3 _ hb)
  refine ⟨hn b hb,e1,e2,.inl (i3 _ hb),e3,fun p hp=>?_⟩
  have hp':p∈[(s.heap.objs.size,o)]:=(List.mem_append.mp hp).elim (fun z=>absurd (show p∈([]:List (Addr × Obj)) from z) (by simp)) id
  rw[List.mem_singleton.mp hp']
  exact B9 (fpLt b hb)
 have loop:dc (r6 X.prog X.w) X.A (.compLoop (.ListComp elt [⟨target,iter,ifs,0⟩] scope pos) 0 (.ref it) (.ref s.heap.objs.size) (X.comp scope N (aP s) H (s.heap.objs.size::fp)).env) (RR (.ref s.heap.objs.size) (aP s).heap.objs.size)
   { aP s with heap:=jZ ((aP s).heap.push { cls:=.type "dict",data:=.dict #[] }) scope.names }:=by
  refine uJ (fun n s'=>∃i ys its k H',C8 (X.comp scope N (aP s) H (s.heap.objs.size::fp)) [] (iP ix σ) H' s'/\tn i s'.heap/\(∀b∈fp,H' b=none)/\H' s.heap.objs.size=none /\
   s'.heap.get? s.heap.objs.size=some { cls:=.type "list",data:=.seq (its:List b9).toArray k }/\K4 ys its/\W i n ys H') ?_ m0
   ⟨0,[],[],0,H,J0,st0,fun b hb=>(hfp b hb).1,fD.1,keep0 _ _ accE,.nil,w0⟩
  rintro n s3 ⟨i,ys,its,k,H3,I3,st3,fr3,d3,l3,v3,w3⟩
  obtain ⟨hz,hw⟩:=turn i n ys H3 w3
  have pinD:C8 (X.comp scope N (aP s) H (s.heap.objs.size::fp)) [(s.heap.objs.size,{ cls:=.type "list",data:=.seq its.toArray k })] (iP ix σ) H3 s3:=I3.pins_of fun p hp=>by
   rw[List.mem_singleton.mp hp]
   exact ⟨l3,d3,(exOk _ i4).1,(exOk _ i4).2.1,fun v z=>by cases z⟩
  rcases hw with ⟨stop,fy⟩|⟨go,Ny,Nn,hNy,hNn,step⟩
  ·refine W8 (T.done (X.comp scope N (aP s) H (s.heap.objs.size::fp)) rfl rfl rfl hc i _ s3 (iP ix σ) H3 (fun _ _=>False) pinD (stat fr3) st3 stop) fun r s4 ⟨hr,I4⟩=>?_
   subst hr
   have q:=(I4.pin (s.heap.objs.size,_) (v9 _ i4)).1
   exact fin ys H3 s4 _ its k (I4.pins_of fun p hp=>by cases hp) d3 q v3 hz fy
  ·refine W8 (T.item (X.comp scope N (aP s) H (s.heap.objs.size::fp)) rfl rfl rfl hc i _ s3 (iP ix σ) H3 (fun _ _=>False) pinD (stat fr3) st3 go) fun r s4 ⟨u,hr,h4⟩=>?_
   subst hr
   refine W8 h4 fun _ s5 ⟨x,H5,I5,r5,y5,st5,fr5⟩=>?_
   have I5':=I5.pinned (stat fr5) (T.obj _ _ st5)
   refine W8 (hg (aP s) H (s.heap.objs.size::fp) _ s5 (iP ix σ) H5 x u _ I5' r5 (step x H5 y5)) fun _ s6 ⟨σ6,H6,I6,wk6,q6⟩=>?_
   refine W8 (ht (aP s) H (s.heap.objs.size::fp) _ s6 σ6 H6 _ I6 q6) fun ok s7 ⟨H7,I7,q7⟩=>?_
   cases ok with
   | false =>
    obtain ⟨m',hm,w7⟩:=hNn H7 q7
    refine ⟨m',hm,i+1,ys,its,k,H7,(I7.weak wk6.1 wk6.2).pins_of (fun p hp=>by cases hp),?_,fun b hb=>?_,?_,?_,v3,w7⟩
    ·exact T.keep _ _ _ st5 fun b hb o e=>(I7.pin (b,o) (v9 _ (v9 _ (cV hb e)))).1
    ·obtain ⟨o,e,d⟩:=T.obj _ _ st5 b hb
     exact (I7.pin (b,o) (v9 _ (v9 _ (cV hb e)))).2.1
    ·exact (I7.pin (s.heap.objs.size,_) (v9 _ (G7 _ i4))).2.1
    ·exact (I7.pin (s.heap.objs.size,_) (v9 _ (G7 _ i4))).1
   | true =>
    show j6 _ _ _ _ _ _
    refine W8 (he _ s7 σ6 H7 _ I7 q7) fun yv s8 ⟨y,H8,I8,r8,q8'⟩=>?_
    obtain ⟨m',hm,w8⟩:=hNy y H8 q8'
    have q8:=I8.pin (s.heap.objs.size,_) (v9 _ (G7 _ i4))
    refine wpAny_list_append_plain (l:=s.heap.objs.size) (items:=its.toArray) ⟨k,q8.1⟩ (fun h' hl' sb=>?_) (by rw[q9,<- v3.length];exact hz)
    obtain ⟨k',hl'⟩:=hl'
    have I9:C8 (X.comp scope N (aP s) H (s.heap.objs.size::fp)) [] (iP ix σ) H8 { s8 with heap:=h' }:=((I8.weak wk6.1 wk6.2).pins_of (pins':=[]) (fun p hp=>by cases hp)).turned (t':=s8.toks) (it:=s.heap.objs.size)
     (fun b o hb e=>(sb.2 b hb).trans e) q8.2.1 (exOk _ i4).1 (.inl i4) (exOk _ i4).2.2 (fun p hp=>absurd (show p∈([]:List (Addr × Obj)) from hp) (by simp))
    refine ⟨m',hm,i+1,ys++[y],its++[yv],k',H8,I9,?_,fun b hb=>?_,q8.2.1,?_,v3.append (.cons r8 .nil),w8⟩
    ·refine T.keep _ _ _ st5 fun b hb o e=>(sb.2 b (n0 (fpLt b hb))).trans (I8.pin (b,o) (v9 _ (v9 _ (cV hb e)))).1
    ·obtain ⟨o,e,d⟩:=T.obj _ _ st5 b hb
     exact (I8.pin (b,o) (v9 _ (v9 _ (cV hb e)))).2.1
    ·have e:its.toArray.push yv=(its++[yv]).toArray:=by simp
     rw[<- e];exact hl'
 exact codeAny_compStart_list loop (T.self _ 0 _ _ _ st0 loop)
theorem O7 (hc:X.calm=true) (hi:PI X target iter wi) (hg:∀s H ex,PG (X.comp scope N s H ex) target g) (ht:∀s H ex,Et (X.comp scope N s H ex) ifs tc) (he:∀s H ex,PE (X.comp scope N s H ex) elt te)
  (hk:scope.kind=.function) (hnm:lp scope=true) (hf:bO scope X.env=true) (hx:jj scope X.N N ix=true) (hs:∀x,tf iter X.env x=pure x):
  PE X (.ListComp elt [⟨target,iter,ifs,0⟩] scope pos) (fun σ H Q=>wi σ H fun J H1=>EA J (iP ix σ) g tc te H1 fun ys H2=>∀p,H2 p=none->Q (.ref p) (n8 H2 p (.lst ys))):=by
 intro pins s σ H Q I h
 rw[eval_ListComp]
 refine BK (use:=none) rfl hs (fV (I.closed hf)) hk (fun x hx hl=>(ji hnm hx).trans (by rw[hl])) ?_
 refine W8 (hi pins s σ H _ I h) fun v s1 h1=>W8 h1 fun itv s2 h2=>?_
 obtain ⟨it,fp,tn,J,H2,e,I2,T,st2,f2,B⟩:=h2
 subst e
 refine wF (RR:=fun acc C=>compPost (r6 X.prog X.w) X.A X.xe none (EP X pins σ Q) acc C) hc hk hnm hf hx hg ht (he _ _ _) I2 T st2 f2 B ?_
 intro ys H' s' σ' its n J' hD hl hv hz hF
 obtain ⟨m,hm,_⟩:=J'.loc
 exact ⟨m,hm,fun h' hs'=>⟨.ref s2.heap.objs.size,_,I2.comp_end J' f2 hD hl hv hz hs',rfl,hF _ hD⟩⟩
theorem nA {i:Nat}{y:Str}{py spos:Pos} (hc:X.calm=true) (hN:X.N.Nodup) (hn:X.N[i]?=some y) (hy:X.env.scope.names.lookup y=some .local)
  (hi:PI X target iter wi) (hg:∀s H ex,PG (X.comp scope N s H ex) target g) (ht:∀s H ex,Et (X.comp scope N s H ex) ifs tc) (he:∀s H ex,PE (X.comp scope N s H ex) elt te)
  (hk:scope.kind=.function) (hnm:lp scope=true) (hf:bO scope X.env=true) (hx:jj scope X.N N ix=true) (hs:∀x,tf iter X.env x=pure x)
  (hsw:om (.ListComp elt [⟨target,iter,ifs,0⟩] scope pos) (some (.Name y py)) spos.line X.env=pure true):
  PS X (.Assign [.Name y py] (.ListComp elt [⟨target,iter,ifs,0⟩] scope pos) spos) (fun D σ H=>wi σ H fun J H1=>EA J (iP ix σ) g tc te H1 fun ys H2=>∀p,H2 p=none->D.nx (σ.set i (some (.ref p))) (n8 H2 p (.lst ys))):=by
 intro pins s σ H D I h
 rw[exec_Assign_Name_used _ _ _ _ hsw]
 refine b7 (fJ (b7 ?_))
 show j6 _ X.A (do let _ <- comprehension (.ListComp elt [⟨target,iter,ifs,0⟩] scope pos) scope X.env _ (newList []) false (eval iter X.env) (some (rD (.Name y py) X.env))) _ _ s
 refine b7 (W8 (BK (use:=some (rD (.Name y py) X.env)) (Q:=fun _ s'=>SP X pins D .next s') rfl hs (fV (I.closed hf)) hk (fun x hx hl=>(ji hnm hx).trans (by rw[hl])) ?_) fun _ s' hq=>d6 (d6 hq))
 refine W8 (hi pins s σ H _ I h) fun v s1 h1=>W8 h1 fun itv s2 h2=>?_
 obtain ⟨it,fp,tn,J,H2,e,I2,T,st2,f2,B⟩:=h2
 subst e
 refine wF (RR:=fun acc C=>compPost (r6 X.prog X.w) X.A X.xe (some (rD (.Name y py) X.env)) (fun _ s'=>SP X pins D .next s') acc C) hc hk hnm hf hx hg ht (he _ _ _) I2 T st2 f2 B ?_
 intro ys H' s' σ' its n J' hD hl hv hz hF
 obtain ⟨m,hm,_⟩:=J'.loc
 have I3:=I2.comp_end (h':=s'.heap) J' f2 hD hl hv hz (.refl ..)
 show j6 _ X.A (rD (.Name y py) X.env (.ref s2.heap.objs.size)) _ _ _
 refine LP (sj (v:=.ref s2.heap.objs.size) I3 hN hn (.inl hy) rfl (fun s'' I4 hsb=>?_) (.inr hy))
 obtain ⟨a,sb,ha⟩:=hsb
 have hCa:(aP s2).heap.objs.size≠a:=by
  rw[bD]
  rcases ha with z|z
  ·rw[z];exact B9 (M0 I2.lt)
  ·obtain ⟨v,q⟩:=I2.cell y a z
   exact B9 (M0 q.lt)
 have hC2:(n8 H' s2.heap.objs.size (.lst ys)) (aP s2).heap.objs.size=none:=by
  rw[A1 (by rw[bD];exact B9 (U1 _))]
  exact J'.free
 refine ⟨m,hm.sameBut sb hCa,fun h' hs'=>?_⟩
 refine ⟨_,_,?_,hF _ hD⟩
 obtain ⟨m2,n2,_⟩:=id I4.loc
 refine I4.turned (t':=s''.toks) (it:=(aP s2).heap.objs.size) (fun b o hb e=>(hs'.2 b hb).trans e) hC2 ?_ ?_ ?_ ?_
 ·rw[bD];exact B9 (M0 I2.lt)
 ·rw[bD];exact .inr (j0 I2.sz (Y9 _))
 ·intro x c e
  obtain ⟨v,q⟩:=I2.cell x c e
  rw[bD];exact n0 (M0 q.lt)
 ·intro p hp
  rw[bD];exact n0 (M0 (i5 (I2.pin p hp).1))
end
section
variable {X:Cx}{pins:List (Addr × Obj)}{σ:St}{H:Hp}{s:d9}{p:Addr}{xs:List V}
variable {A:A8}
theorem pP {E:b9->d9->Prop}{Q:b9->d9->Prop} (I:C8 X pins σ H s) (hh:A.handled=none) (hs:dP X.K H p xs ∨ dI X.K H p xs)
  (h:∀(its:List b9) (it:Addr) (fp wr:List Addr) (St:Nat->Heap->Prop) (h2:Heap),K4 xs its->Walks X.prog X.w A it fp wr its.length (fun i v=>its[i]?=some v) St->St 0 h2->(∀b∈fp,b<h2.objs.size) ->
   (∀h':Heap,(∀b o,b ∉ wr->h2.get? b=some o->h'.get? b=some o)->∀b o,s.heap.get? b=some o->h'.get? b=some o)->Q (.ref it) { s with heap:=h2 }):
  j6 (r6 X.prog X.w) A (nW (.ref p)) Q E s:=by
 have keep:∀(o:Obj) (h':Heap),(∀b u,b ∉ [s.heap.objs.size]->(s.heap.push o).get? b=some u->h'.get? b=some u)->∀b u,s.heap.get? b=some u->h'.get? b=some u:=fun o h' hk b u e =>
  hk b u (fun hm=>by rw[List.mem_singleton.mp hm] at e;exact aR _ (i5 e)) (d7 _ e)
 rcases hs with hs|hs
 ·obtain ⟨its,rv,pl,hz⟩:=I.list hs
  have hlt:p<s.heap.objs.size:=by obtain ⟨_,e,_⟩:=pl.isList;exact i5 e
  refine sU pl.isList ?_
  have W:=Walks.list (prog:=X.prog) (w:=X.w) (A:=A) hh s.heap.objs.size p (n0 hlt) its.toArray
  refine h its s.heap.objs.size [s.heap.objs.size,p] [s.heap.objs.size] (fun i h=>h.IsListIter s.heap.objs.size p i/\h.IsList p its.toArray) _ rv (by simpa using W) ⟨⟨_,j9 _ rfl,rfl,rfl⟩,pl.isList.push _⟩ (fun b hb=>?_) (keep _)
  rw[D3]
  rcases List.mem_cons.mp hb with rfl|hb
  ·exact U1 _
  ·rw[List.mem_singleton.mp hb];exact M0 hlt
 ·obtain ⟨its,rv,pl,hz⟩:=I.tuple hs
  have pl':s.heap.IsTuple p its.toArray:=pl
  have hlt:p<s.heap.objs.size:=pl.lt
  refine aV pl' ?_
  have W:=Walks.tuple (prog:=X.prog) (w:=X.w) (A:=A) hh s.heap.objs.size p (n0 hlt) its.toArray
  refine h its s.heap.objs.size [s.heap.objs.size,p] [s.heap.objs.size] (fun i h=>h.IsTupleIter s.heap.objs.size p i/\h.IsTuple p its.toArray) _ rv (by simpa using W) ⟨⟨_,j9 _ rfl,rfl,rfl⟩,pl'.push _⟩ (fun b hb=>?_) (keep _)
  rw[D3]
  rcases List.mem_cons.mp hb with rfl|hb
  ·exact U1 _
  ·rw[List.mem_singleton.mp hb];exact M0 hlt
noncomputable def JL (ns:List Int) (i:Nat):Int:=(ns[i]?).getD 0
theorem qf (ns:List Int):∀k,preSum (JL ns) k=(ns.take k).sum
 | 0=>by simp[preSum]
 | k+1=>by
  rw[preSum,qf ns k,E3,List.sum_append]
  unfold JL
  cases ns[k]? <;> simp
theorem Cs {ns:List Int}{its:List b9} (r:K4 (ns.map V.int) its) {i:Nat}{v:b9} (e:its[i]?=some v):∃t,v=.int (JL ns i) t:=by
 have hl:=r.length
 rw[d8] at hl
 have hi:i<ns.length:=by rw[hl];exact (List.getElem?_eq_some_iff.mp e).1
 obtain ⟨u,hu,ru⟩:=r.get (i:=i) (x:=.int ns[i]) (by rw[w5,f7 hi];rfl)
 rw[e] at hu;cases hu
 obtain ⟨t,rfl⟩:=ru
 exact ⟨t,by unfold JL;rw[f7 hi];rfl⟩
theorem cC (hc:X.calm=true):bE X (.builtin "sum") (fun xs H Q=>∃(p:Addr) (ns:List Int),xs=[.ref p]/\(dP X.K H p (ns.map V.int) ∨ dI X.K H p (ns.map V.int))/\Q (.int ns.sum) H):=by
 intro pins s σ H xs us Q I r h
 obtain ⟨p,ns,rfl,hs,q⟩:=h
 obtain ⟨u,rfl,ru⟩:=kU r
 cases ru
 refine call_sum_walkG (pP (A:=X.A.in1) I (I.ok.hd hc) hs fun its it fp wr St h2 rv W st hfp keep=>?_)
 refine ⟨it,fp,wr,its.length,_,St,JL ns,rfl,W,st,hfp,fun i v e=>Cs rv e,fun h' tk t' hk=>?_⟩
 have e:preSum (JL ns) its.length=ns.sum:=by
  rw[qf,<- rv.length,d8,E2]
 rw[e]
 exact ⟨.int ns.sum,H,I.kept (keep h' hk),⟨_,rfl⟩,q⟩
noncomputable def iZ:V->Bool
 | .bl b=>b
 | .int i=>i != 0
 | .non=>false
 | _=>true
noncomputable def qp:V->Bool
 | .bl _=>true
 | .int _=>true
 | .non=>true
 | _=>false
theorem Fq {E:b9->d9->Prop}{x:V}{v:b9}{s:d9}{Q:Bool->d9->Prop} (r:K2 x v) (ok:qp x=true) (h:Q (iZ x) s):j6 (r6 X.prog X.w) A (truthy v) Q E s:=by
 cases x with
 | bl b=>cases r;exact S8 h
 | int i=>obtain ⟨t,rfl⟩:=r;exact PyProof.Rows.truthy_int h
 | non=>cases r;exact PyProof.Rows.truthy_none h
 | _=>exact absurd (show false=true from ok) t7
noncomputable def rJ (d:Bool) (xs:List V) (i:Nat):Bool:=((xs[i]?).map iZ).getD d
theorem Gj (xs:List V):(J9 xs.length).all (rJ true xs)=xs.all iZ:=by
 rw[aK,rh,rh]
 constructor
 ·intro h b hb
  obtain ⟨i,hi,e⟩:=Cb hb
  have:=h i (List.mem_range.mpr hi)
  unfold rJ at this
  rw[f7 hi,e] at this
  exact this
 ·intro h i hi
  have hi':=List.mem_range.mp hi
  unfold rJ
  rw[f7 hi']
  exact h _ (K9 hi')
theorem Gi (xs:List V):(J9 xs.length).any (rJ false xs)=xs.any iZ:=by
 rw[aK,Gw,Gw]
 constructor
 ·rintro ⟨i,hi,e⟩
  have hi':=List.mem_range.mp hi
  unfold rJ at e
  rw[f7 hi'] at e
  exact ⟨_,K9 hi',e⟩
 ·rintro ⟨b,hb,e⟩
  obtain ⟨i,hi,rfl⟩:=Cb hb
  refine ⟨i,List.mem_range.mpr hi,?_⟩
  unfold rJ
  rw[f7 hi]
  exact e
theorem nj {its:List b9} (d:Bool) (rv:K4 xs its) (ok:xs.all qp=true):TruthOf X.prog X.w A (fun i v=>its[i]?=some v) (rJ d xs):=by
 intro i v s Q E e hQ
 have hi:i<xs.length:=by rw[rv.length];exact (List.getElem?_eq_some_iff.mp e).1
 obtain ⟨u,hu,ru⟩:=rv.get (i:=i) (x:=xs[i]) (by rw[f7 hi])
 rw[e] at hu;cases hu
 refine Fq (X:=X) ru (List.all_eq_true.mp ok _ (K9 hi)) ?_
 unfold rJ at hQ
 rw[f7 hi] at hQ
 exact hQ
theorem Z8 (hc:X.calm=true):bE X (.builtin "all") (fun xs H Q=>∃(p:Addr) (ys:List V),xs=[.ref p]/\(dP X.K H p ys ∨ dI X.K H p ys)/\ys.all qp=true/\Q (.bl (ys.all iZ)) H):=by
 intro pins s σ H xs us Q I r h
 obtain ⟨p,ys,rfl,hs,ok,q⟩:=h
 obtain ⟨u,rfl,ru⟩:=kU r
 cases ru
 refine call_all_walk (pP (A:=X.A.in1) I (I.ok.hd hc) hs fun its it fp wr St h2 rv W st hfp keep=>?_)
 refine ⟨it,fp,wr,its.length,_,St,rJ true ys,rfl,W,st,nj true rv ok,fun h' tk hk=>?_⟩
 rw[<- rv.length,Gj]
 exact ⟨.bl _,H,I.kept (keep h' hk),rfl,q⟩
theorem lJ (hc:X.calm=true):bE X (.builtin "any") (fun xs H Q=>∃(p:Addr) (ys:List V),xs=[.ref p]/\(dP X.K H p ys ∨ dI X.K H p ys)/\ys.all qp=true/\Q (.bl (ys.any iZ)) H):=by
 intro pins s σ H xs us Q I r h
 obtain ⟨p,ys,rfl,hs,ok,q⟩:=h
 obtain ⟨u,rfl,ru⟩:=kU r
 cases ru
 refine call_any_walk (pP (A:=X.A.in1) I (I.ok.hd hc) hs fun its it fp wr St h2 rv W st hfp keep=>?_)
 refine ⟨it,fp,wr,its.length,_,St,rJ false ys,rfl,W,st,nj false rv ok,fun h' tk hk=>?_⟩
 rw[<- rv.length,Gi]
 exact ⟨.bl _,H,I.kept (keep h' hk),rfl,q⟩
end
section
variable {prog:j7}{w:u9}{A:A8}{E:b9->d9->Prop}{s:d9}
theorem qv {it t:Addr}{i:Nat}{its:Array b9}{x:b9}{Q:b9->d9->Prop} (hit:s.heap.IsTupleIter it t i) (ht:s.heap.IsTuple t its) (hx:its[i]?=some x)
  (hQ:∀h',h'.IsTupleIter it t (i+1)->G2 it s.heap h'->Q x { s with heap:=h' }):j6 (r6 prog w) A (F2 (.ref it)) Q E s:=by
 obtain ⟨o,ho,hc,hd⟩:=id hit
 obtain ⟨ol,hol,_,nl,hdl⟩:=ht
 unfold F2
 refine b7 (C0 (name:=P9 "__next__") hit.typeIs bM
  (D5 bM hit.typeIs xk ?_ (vn _)))
 show j6 _ _ (qZ (.ref it) 0 >>= _) _ _ s
 refine b7 (C3 ho hd (x:=.ref t) rfl ?_)
 show j6 _ _ (if (n5 t == B5)=true then _ else _) _ _ s
 rw[if_neg (show ¬ ((n5 t == B5)=true) from t7)]
 show j6 _ _ (qZ (.ref it) 1 >>= _) _ _ s
 refine b7 (C3 ho hd (x:=.int i 0) rfl ?_)
 show j6 _ _ (seqItems? (.ref t) >>= _) _ _ s
 refine b7 (bS hol hdl ?_)
 simp only[M3,hx]
 refine b7 (X9 ho hd (by simp) (d6 ⟨x,rfl,d6 (hQ _ ?_ (Q5 ..))⟩))
 exact ⟨_,L7 _ ho (aY (Q3 hd _)),(oW ..).trans hc,by
  rw[Q3 hd];simp[U9]⟩
end
section
variable {prog:j7}{w:u9}{A:A8}{E:b9->d9->Prop}{s:d9}
variable {it:Addr}{i:Nat}{its:Array b9}{Q:b9->d9->Prop}
theorem sy {t:Addr}(hh:A.handled=none) (hit:s.heap.IsTupleIter it t i) (ht:s.heap.IsTuple t its) (hx:its[i]?=none)
  (hE:∀h' e,eM it s.heap h'->(∃o,h'.get? e=some o/\o.cls=.type "StopIteration")->E (.ref e) { s with heap:=h' }):j6 (r6 prog w) A (F2 (.ref it)) Q E s:=by
 obtain ⟨o,ho,hc,hd⟩:=id hit
 obtain ⟨ol,hol,_,nl,hdl⟩:=ht
 unfold F2
 refine b7 (C0 (name:=P9 "__next__") hit.typeIs bM
  (D5 bM hit.typeIs xk ?_ (vn _)))
 show j6 _ _ (qZ (.ref it) 0 >>= _) _ _ s
 refine b7 (C3 ho hd (x:=.ref t) rfl ?_)
 show j6 _ _ (if (n5 t == B5)=true then _ else _) _ _ s
 rw[if_neg (show ¬ ((n5 t == B5)=true) from t7)]
 show j6 _ _ (qZ (.ref it) 1 >>= _) _ _ s
 refine b7 (C3 ho hd (x:=.int i 0) rfl ?_)
 show j6 _ _ (seqItems? (.ref t) >>= _) _ _ s
 refine b7 (bS hol hdl ?_)
 simp only[M3,hx]
 refine b7 (Q9 (b7 (X9 ho hd (by simp) ?_)))
 show j6 _ _ (vh (.type "StopIteration") [] >>= _) _ _ _
 refine b7 ?_
 simp only[vh,Af]
 refine b7 (B6 ?_ (by size_fits))
 refine b7 (m:=aB _ _) (nV (a:=B5) (by first|rfl | (simp only[aB];rfl)) ?_)
 refine B6 ?_ (by size_fits)
 simp only[GZ]
 refine b7 (qW ?_)
 first|rw[show A.in1.handled=none from hh]|rw[hh]
 exact b7 (d6 (wX (hE _ _ (((Q5 ..).extBut.push _).push _) ⟨_,j9 _ rfl,rfl⟩)))
noncomputable def EN:Bool->m6->Hp->Addr->List V->Prop
 | false=>dI
 | true=>dP
noncomputable def vc:Bool->Heap->Addr->Array b9->Prop
 | false=>LW
 | true=>Heap.IsList
noncomputable def xn:Bool->Heap->Addr->Addr->Nat->Prop
 | false=>Heap.IsTupleIter
 | true=>Heap.IsListIter
noncomputable def itN:Bool->String
 | false=>"tuple_iterator"
 | true=>"list_iterator"
noncomputable abbrev KB (p:Bool) (t:Addr):Obj:={ cls:=.type (itN p),data:=.fields #[.ref t,.int 0 0] }
variable {h:Heap}{a:Addr}
theorem _root_.PySem.Heap.IsList.at' {h':Heap}{items:Array b9} (x:h.IsList a items) (e:∀o,h.get? a=some o->h'.get? a=some o):h'.IsList a items:=let ⟨o,ho,r⟩:=x;⟨o,e _ ho,r⟩
theorem vc.at {p:Bool}{h h':Heap}{a:Addr}{xs:Array b9} (x:vc p h a xs) (e:∀o,h.get? a=some o->h'.get? a=some o):vc p h' a xs:=by
 cases p
 ·exact Heap.IsTuple.at x e
 ·exact Heap.IsList.at' x e
variable {p:Bool}{xs:Array b9}
theorem vc.lt (x:vc p h a xs):a<h.objs.size:=by
 cases p <;> exact let ⟨_,ho,_⟩:=x;i5 ho
theorem xn.at {p:Bool}{h h':Heap}{a t:Addr}{k:Nat} (x:xn p h a t k) (e:∀o,h.get? a=some o->h'.get? a=some o):xn p h' a t k:=by
 cases p
 ·exact Heap.IsTupleIter.at x e
 ·exact Heap.IsListIter.at x e
variable {k:Nat}
theorem xn.ob {t:Addr}(x:xn p h a t k):∃o,h.get? a=some o/\o.data=.fields #[.ref t,.int k 0]:=by
 cases p <;> exact let ⟨o,ho,_,hd⟩:=x;⟨o,ho,hd⟩
theorem xn.new {t:Addr} (e:h.get? a=some (KB p t)):xn p h a t 0:=by
 cases p <;> exact ⟨_,e,rfl,rfl⟩
theorem qw {t:Addr}{x:b9}(hit:xn p s.heap it t i) (ht:vc p s.heap t its) (hx:its[i]?=some x)
  (hQ:∀h',xn p h' it t (i+1)->G2 it s.heap h'->Q x { s with heap:=h' }):j6 (r6 prog w) A (F2 (.ref it)) Q E s:=by
 cases p
 ·exact qv hit ht hx hQ
 ·exact wpAny_nextOf_list_item hit ht hx hQ
theorem AL {t:Addr}(hh:A.handled=none) (hit:xn p s.heap it t i) (ht:vc p s.heap t its) (hx:its[i]?=none)
  (hE:∀h' e,eM it s.heap h'->(∃o,h'.get? e=some o/\o.cls=.type "StopIteration")->E (.ref e) { s with heap:=h' }):j6 (r6 prog w) A (F2 (.ref it)) Q E s:=by
 cases p
 ·exact sy hh hit ht hx hE
 ·exact wpAny_nextOf_list_end hh hit ht hx hE
theorem GL {t:Addr}(ht:vc p s.heap t xs) (h:Q (.ref s.heap.objs.size) { s with heap:=s.heap.push (KB p t) }):j6 (r6 prog w) A (nW (.ref t)) Q E s:=by
 cases p
 ·exact aV ht h
 ·exact sU ht h
structure Bq (p q:Bool) (h:Heap) (z TI TO i1 i2 t1 t2:Addr) (k:Nat):Prop where
 zz:Aq h z TI TO .none
 ti:rF h TI (.ref i1) (.ref i2)
 tO:∃a b,rF h TO a b
 it1:xn p h i1 t1 k
 it2:xn q h i2 t2 k
structure yJ (z TI TO i1 i2 t1 t2:Addr):Prop where
 a1:TI≠z
 a2:TO≠z
 a3:i1≠z
 a4:i2≠z
 b1:TI≠TO
 b2:TI≠i1
 b3:TI≠i2
 c1:TO≠i1
 c2:TO≠i2
 d1:i1≠i2
 e1:t1≠z
 e2:t1≠TO
 e3:t1≠i1
 e4:t1≠i2
 f1:t2≠z
 f2:t2≠TO
 f3:t2≠i1
 f4:t2≠i2
variable {n:Nat}
theorem fS {a b:Nat} (h:a≠b):n+a≠n+b:=by lia
theorem nG {a t:Nat} (h:t<n):t≠n+a:=by lia
theorem yJ.new {t1 t2:Nat} (h1:t1<n) (h2:t2<n):yJ (n+4) (n+2) (n+3) n (n+1) t1 t2 where
 a1:=fS (by decide)
 a2:=fS (by decide)
 a3:=fS (n:=n) (a:=0) (by decide)
 a4:=fS (by decide)
 b1:=fS (by decide)
 b2:=fS (n:=n) (b:=0) (by decide)
 b3:=fS (by decide)
 c1:=fS (n:=n) (b:=0) (by decide)
 c2:=fS (by decide)
 d1:=fS (n:=n) (a:=0) (by decide)
 e1:=nG h1
 e2:=nG h1
 e3:=nG (a:=0) h1
 e4:=nG h1
 f1:=nG h2
 f2:=nG h2
 f3:=nG (a:=0) h2
 f4:=nG h2
variable {q:Bool}{t1 t2:Addr}
theorem Ar {z TI TO i1 i2:Addr}{ys:Array b9}{x y:b9}{Q:Option b9->d9->Prop} (D:yJ z TI TO i1 i2 t1 t2) (Z:Bq p q s.heap z TI TO i1 i2 t1 t2 k) (hl1:vc p s.heap t1 xs) (hl2:vc q s.heap t2 ys)
  (hx:xs[k]?=some x) (hy:ys[k]?=some y)
  (hQ:∀h',Aq h' z TI TO (U9 s.heap.objs.size)->rF h' TO x y->xn p h' i1 t1 (k+1)->xn q h' i2 t2 (k+1)->rF h' s.heap.objs.size x y->h'.objs.size=s.heap.objs.size+1 ->
   (∀c o,c ∉ [z,TO,i1,i2]->s.heap.get? c=some o->h'.get? c=some o)->Q (some (.ref s.heap.objs.size)) { s with heap:=h' }):
  j6 (r6 prog w) A (Y1 (.ref z)) Q E s:=by
 obtain ⟨hz,hTI,⟨a,b,hTO⟩,h1,h2⟩:=Z
 have hT:s.TypeIs (.ref z) "zip":=⟨_,hz,rfl⟩
 unfold Y1
 refine b7 (Q2 (C0 (name:=P9 "__next__") hT kN (D5 kN hT Ki ?_ (JE _))))
 show j6 _ _ (qZ (.ref z) 2 >>= _) _ _ _
 refine b7 (C3 hz rfl (x:=.bool false) rfl ?_)
 show j6 _ _ (qZ (.ref z) 3 >>= _) _ _ _
 refine b7 (C3 hz rfl (x:=.ref TI) rfl (b7 (bS hTI rfl ?_)))
 show j6 _ _ (I0 (.ref z) >>= _) _ _ _
 refine b7 ?_
 unfold I0
 refine b7 (C3 hz rfl (x:=.none) rfl (d6 ?_))
 simp only[if_true]
 refine b7 (Q9 (b7 (C3 hz rfl (x:=.ref TO) rfl (b7 (D4 hz (by simp) fun g1 z1 s1=>?_)))))
 replace z1:Aq g1 z TI TO .ellipsis:=z1
 refine b7 ?_
 simp only[rf,HC,fB,fX]
 refine b7 (b7 (qV ?_))
 show j6 _ _ (F2 (.ref i1) >>= _) _ _ _
 refine b7 (qw (h1.at fun o e=>s1.extBut _ o D.a3 e) (hl1.at fun o e=>s1.extBut _ o D.e1 e) hx fun g2 j1 s2=>d6 ?_)
 have o2:rF g2 TO a b:=s2.extBut _ _ D.c1 (s1.extBut _ _ D.a2 hTO)
 refine b7 (bS o2 rfl (b7 (GW o2 fun g3 o3 s3=>?_)))
 replace o3:rF g3 TO x b:=o3
 refine b7 (wY (d6 (b7 (b7 (qV ?_)))))
 show j6 _ _ (F2 (.ref i2) >>= _) _ _ _
 refine b7 (qw (h2.at fun o e=>s3.extBut _ o D.c2.symm (s2.extBut _ o D.d1.symm (s1.extBut _ o D.a4 e))) (hl2.at fun o e=>s3.extBut _ o D.f2 (s2.extBut _ o D.f3 (s1.extBut _ o D.f1 e))) hy fun g4 j2 s4=>d6 ?_)
 have o4:rF g4 TO x b:=s4.extBut _ _ D.c2 o3
 refine b7 (bS o4 rfl (b7 (GW o4 fun g5 o5 s5=>?_)))
 replace o5:rF g5 TO x y:=o5
 refine b7 (wY (d6 (d6 ?_)))
 refine b7 (bS o5 rfl (b7 (iB ?_)))
 have hsz:g5.objs.size=s.heap.objs.size:=by rw[s5.1,s4.1,s3.1,s2.1,s1.1]
 have z5:Aq g5 z TI TO .ellipsis:=s5.extBut _ _ D.a2.symm (s4.extBut _ _ D.a4.symm (s3.extBut _ _ D.a2.symm (s2.extBut _ _ D.a3.symm z1)))
 have k5:∀c o,c ∉ [z,TO,i1,i2]->s.heap.get? c=some o->g5.get? c=some o:=fun c o hc e=>by
  simp only[A0,y7,or_false,not_or] at hc
  exact s5.extBut _ _ hc.2.1 (s4.extBut _ _ hc.2.2.2 (s3.extBut _ _ hc.2.1 (s2.extBut _ _ hc.2.2.1 (s1.extBut _ _ hc.1 e))))
 have m1:xn p g5 i1 t1 (k+1):=j1.at fun o e=>s5.extBut _ o D.c1.symm (s4.extBut _ o D.d1 (s3.extBut _ o D.c1.symm e))
 have m2:xn q g5 i2 t2 (k+1):=j2.at fun o e=>s5.extBut _ o D.c2.symm e
 show j6 _ _ (S7 (.ref z) (.ref g5.objs.size) >>= _) _ _ _
 refine b7 ?_
 unfold S7
 have z6:Aq (g5.push { cls:=.type "tuple",data:=.seq #[x,y] }) z TI TO .ellipsis:=d7 _ z5
 refine b7 (D4 z6 (by simp) fun g7 z7 s7=>?_)
 replace z7:Aq g7 z TI TO (U9 g5.objs.size):=z7
 refine D4 z7 (by simp) fun g8 z8 s8=>?_
 replace z8:Aq g8 z TI TO (U9 g5.objs.size):=z8
 have up:∀c o,c≠z->g5.get? c=some o->g8.get? c=some o:=fun c o hc e=>s8.extBut _ _ hc (s7.extBut _ _ hc (d7 _ e))
 have new8:rF g8 g5.objs.size x y:=s8.extBut _ _ (B9 (i5 z5)) (s7.extBut _ _ (B9 (i5 z5)) (j9 _ rfl))
 have size8:g8.objs.size=g5.objs.size+1:=by rw[s8.1,s7.1,D3]
 rw[hsz] at z8 new8 size8
 refine d6 ⟨_,rfl,d6 ?_⟩
 show Q (some (.ref g5.objs.size)) _
 rw[hsz]
 exact hQ g8 z8 (up _ _ D.a2 o5) (m1.at fun o e=>up _ o D.a3 e) (m2.at fun o e=>up _ o D.a4 e) new8 size8 fun c o hc e=>up c o (fun q=>hc (by simp[q])) (k5 c o hc e)
theorem Co {z TI TO i1 i2:Addr}{Q:Option b9->d9->Prop} (hh:A.handled=none) (D:yJ z TI TO i1 i2 t1 t2) (Z:Bq p q s.heap z TI TO i1 i2 t1 t2 k) (hl1:vc p s.heap t1 xs)
  (hx:xs[k]?=none) (hQ:∀h',(∀c o,c ∉ [z,TO,i1,i2]->s.heap.get? c=some o->h'.get? c=some o)->Q none { s with heap:=h' }):j6 (r6 prog w) A (Y1 (.ref z)) Q E s:=by
 obtain ⟨hz,hTI,⟨a,b,hTO⟩,h1,h2⟩:=Z
 have hT:s.TypeIs (.ref z) "zip":=⟨_,hz,rfl⟩
 unfold Y1
 refine b7 (Q2 (C0 (name:=P9 "__next__") hT kN (D5 kN hT Ki ?_ (JE _))))
 show j6 _ _ (qZ (.ref z) 2 >>= _) _ _ _
 refine b7 (C3 hz rfl (x:=.bool false) rfl ?_)
 show j6 _ _ (qZ (.ref z) 3 >>= _) _ _ _
 refine b7 (C3 hz rfl (x:=.ref TI) rfl (b7 (bS hTI rfl ?_)))
 show j6 _ _ (I0 (.ref z) >>= _) _ _ _
 refine b7 ?_
 unfold I0
 refine b7 (C3 hz rfl (x:=.none) rfl (d6 ?_))
 simp only[if_true]
 refine b7 (Q9 (b7 (C3 hz rfl (x:=.ref TO) rfl (b7 (D4 hz (by simp) fun g1 z1 s1=>?_)))))
 replace z1:Aq g1 z TI TO .ellipsis:=z1
 refine b7 ?_
 simp only[rf,HC,fB,fX]
 refine b7 (b7 (qV ?_))
 show j6 _ _ (F2 (.ref i1) >>= _) _ _ _
 refine b7 (AL hh (h1.at fun o e=>s1.extBut _ o D.a3 e) (hl1.at fun o e=>s1.extBut _ o D.e1 e) hx fun g2 e s2 he=>?_)
 obtain ⟨oe,hoe,hce⟩:=he
 have z2:Aq g2 z TI TO .ellipsis:=s2 _ _ D.a3.symm z1
 have hez:e≠z:=fun q=>by subst q;rw[z2] at hoe;cases hoe;simp at hce
 refine D4 z2 (by simp) fun g3 _ s3=>?_
 refine b7 (fC (T:="StopIteration") (b:=true) ⟨oe,s3.extBut _ _ hez hoe,hce⟩ iH (d6 (hQ g3 fun c o hc q=>?_)))
 simp only[A0,y7,or_false,not_or] at hc
 exact s3.extBut _ _ hc.1 (s2 _ _ hc.2.2.1 (s1.extBut _ _ hc.1 q))
noncomputable abbrev Km (t:Addr):Obj:={ cls:=.type "tuple_iterator",data:=.fields #[.ref t,.int 0 0] }
noncomputable abbrev tpr (a b:b9):Obj:={ cls:=.type "tuple",data:=.seq #[a,b] }
noncomputable abbrev zob (a b:Addr):Obj:={ cls:=.type "zip",data:=.fields #[.none,.bool false,.bool false,.ref a,.ref b] }
noncomputable abbrev Gy (p q:Bool) (h:Heap) (t1 t2:Addr):Heap:=((((h.push (KB p t1)).push (KB q t2)).push (tpr (.ref h.objs.size) (.ref (h.objs.size+1)))).push (tpr .none .none)).push (zob (h.objs.size+2) (h.objs.size+3))
theorem Cm (p q:Bool) (t1 t2:Addr) (xs ys:Array b9):
  Hv (cg.«zip.__new__» ⟨[.type "zip",.ref t1,.ref t2],[]⟩) (fun _ R s=>vc p s.heap t1 xs/\vc q s.heap t2 ys/\R (.ok (.ret (.ref (s.heap.objs.size+4)))) { s with heap:=Gy p q s.heap t1 t2 }):=
 .of_wp fun prog w A R s h=>by
  obtain ⟨hp,g,d,tk,os⟩:=s;obtain ⟨hl1,hl2,h⟩:=h
  have hsub:=sub_zip
  have hL1:vc p (yP ⟨hp,g,d,tk,os⟩) t1 xs:=hl1
  have hL2:vc q (yP ⟨hp.push (KB p t1),g,d,tk,os⟩) t2 ys:=hl2.at fun o e=>d7 _ e
  wp_walk using GL hL1,GL hL2
  simp only[D3]
  exact ⟨_,rfl,h⟩
theorem Bj {ys:Array b9}(hl1:vc p s.heap t1 xs) (hl2:vc q s.heap t2 ys)
  (h:∀h',Bq p q h' (s.heap.objs.size+4) (s.heap.objs.size+2) (s.heap.objs.size+3) s.heap.objs.size (s.heap.objs.size+1) t1 t2 0->(∀c o,s.heap.get? c=some o->h'.get? c=some o)->h'.objs.size=s.heap.objs.size+5 ->
   Q (.ref (s.heap.objs.size+4)) { s with heap:=h' }):j6 (r6 prog w) A (call (.type "zip") [.ref t1,.ref t2]) Q E s:=by
 refine callType_new F.called_zip (by decide) (F.typeCall_zip_2 _ _) (F.newCall_zip_2 _ _) (fun obj=>F.args_object_init_3 obj _ _) F.entry_zip_new (Cm p q t1 t2 xs ys) ⟨hl1,hl2,?_⟩
 have up:∀{b:Addr}{o:Obj} (h0:Heap) (x:Obj),h0.get? b=some o->(h0.push x).get? b=some o:=fun _ _ e=>d7 _ e
 have here:∀(h0:Heap) (x:Obj) (n:Nat),x.isFreed=false->h0.objs.size=n->(h0.push x).get? n=some x:=fun h0 x n hf e=>by subst e;exact j9 _ hf
 have Z:Bq p q (Gy p q s.heap t1 t2) (s.heap.objs.size+4) (s.heap.objs.size+2) (s.heap.objs.size+3) s.heap.objs.size (s.heap.objs.size+1) t1 t2 0 :=
  ⟨here _ _ _ rfl (by simp only[D3]),up _ _ (up _ _ (here _ _ _ rfl (by simp only[D3]))),⟨_,_,up _ _ (here _ _ _ rfl (by simp only[D3]))⟩,
   .new (up _ _ (up _ _ (up _ _ (up _ _ (here _ _ _ rfl rfl))))),.new (up _ _ (up _ _ (up _ _ (here _ _ _ rfl (by simp only[D3])))))⟩
 exact ⟨⟨_,Z.zz,rfl⟩,h _ Z (fun c o e=>up _ _ (up _ _ (up _ _ (up _ _ (up _ _ e))))) (by simp only[D3])⟩
end
section
variable {X:Cx}{pins:List (Addr × Obj)}{σ:St}{H:Hp}{s:d9}
theorem C8.turnedL {h':Heap}{t':Nat}{ch:List Addr} (I:C8 X pins σ H s) (k:∀b o,b ∉ ch->s.heap.get? b=some o->h'.get? b=some o) (hf:∀b∈ch,oj X pins H b):C8 X pins σ H { s with heap:=h',toks:=t' }:=by
 have nit:∀b u,H b=some u->b ∉ ch:=fun b u e z=>by rw[(hf b z).1] at e;cases e
 refine I.step (g':=s.gens) (d':=s.drawn) (ch:=ch) (fun b hb=>⟨(hf b hb).2.2.2.1,(hf b hb).2.1,(hf b hb).2.2.2.2.1,(hf b hb).2.2.2.2.2⟩) (fun b o _ _ hc e _=>k b o hc e) (fun b o _ _ hc e _=>⟨o.slots,k b o hc e⟩) (fun _ _ _ _ n=>n)
  (fun b o hc e=>⟨o,k b o hc e⟩) (fun _ _ e=>e) (fun _ _ _ e=>e) (fun b ps e=>⟨#[],by rw[e];simp⟩) (fun m hm=>?_) (fun b u e=>?_) I.bare
 ·obtain ⟨o,es,ep,ho,r⟩:=hm
  exact ⟨o,es,ep,k _ o (fun z=>(hf _ z).2.1 rfl) ho,r⟩
 ·refine (I.hok b u e).stay (fun c v hc q=>k c v ?_ q) (fun _ q=>q) fun _ _ q=>q
  rcases hc with z|z
  ·rw[z];exact nit b u e
  ·exact nit c _ z
variable {p:Bool}{a:Addr}{xs:List V}
theorem C8.sqB (I:C8 X pins σ H s) (h:EN p X.K H a xs):∃its:List b9,K4 xs its/\vc p s.heap a its.toArray:=by
 cases p
 ·exact let ⟨its,r,e,_⟩:=I.tuple h;⟨its,r,e⟩
 ·exact let ⟨its,r,e,_⟩:=I.list h;⟨its,r,e.isList⟩
theorem C8.sqB_inj {ys:List V} (I:C8 X pins σ H s) (h:EN p X.K H a xs) (h':EN p X.K H a ys):xs=ys:=by
 cases p
 ·exact I.tuple_inj h h'
 ·exact I.list_inj h h'
noncomputable def ItzB (p q:Bool) (K:m6) (a b:Addr):It :=
 ⟨fun i H=>∃xs ys x y,EN p K H a xs/\EN q K H b ys/\xs[i]?=some x/\ys[i]?=some y,fun i H v H'=>∃r x y,H r=none/\v=.ref r/\H'=n8 H r (.tup [x,y])/\(∀xs,EN p K H a xs->xs[i]?=some x)/\∀ys,EN q K H b ys->ys[i]?=some y,
  fun i H=>∃xs,EN p K H a xs/\xs.length<=i⟩
variable {es:List Expr}{kk:Nat}
theorem jw {q:Bool}{P:j7}{w:u9}{K:m6}{pos:Pos}{b z TI TO i1 i2:Addr} (D:yJ z TI TO i1 i2 a b):
  rS P w K (.Tuple es kk pos) (ItzB p q K a b) [z,TI,TO,i1,i2] z (fun i h=>Bq p q h z TI TO i1 i2 a b i) where
 mem:=by simp
 obj:=fun i h st c hc=>by
  obtain ⟨hz,hTI,⟨_,_,hTO⟩,h1,h2⟩:=st
  obtain ⟨_,h1,d1⟩:=h1.ob
  obtain ⟨_,h2,d2⟩:=h2.ob
  simp only[A0,y7,or_false] at hc
  rcases hc with rfl|rfl|rfl|rfl|rfl
  ·exact ⟨_,hz,fun v q=>by cases q⟩
  ·exact ⟨_,hTI,fun v q=>by cases q⟩
  ·exact ⟨_,hTO,fun v q=>by cases q⟩
  ·exact ⟨_,h1,fun v q=>by rw[d1] at q;cases q⟩
  ·exact ⟨_,h2,fun v q=>by rw[d2] at q;cases q⟩
 keep:=fun i h h' st k=>by
  obtain ⟨hz,hTI,⟨_,_,hTO⟩,h1,h2⟩:=st
  exact ⟨k _ (by simp) _ hz,k _ (by simp) _ hTI,⟨_,_,k _ (by simp) _ hTO⟩,h1.at fun o e=>k _ (by simp) o e,h2.at fun o e=>k _ (by simp) o e⟩
 item:=by
  intro X hP hw hK hc i pins s σ H E I hf st hg
  subst hP hw hK
  obtain ⟨xs,ys,x,y,ha,hb,hx,hy⟩:=hg
  obtain ⟨its,r1,p1⟩:=I.sqB ha
  obtain ⟨its2,r2,p2⟩:=I.sqB hb
  obtain ⟨u,hu,ru⟩:=r1.get hx
  obtain ⟨v,hv,rv⟩:=r2.get hy
  refine Ar D st p1 p2 (x:=u) (y:=v) (by simpa using hu) (by simpa using hv) fun h' z1 o1 j1 j2 new sz keep=>?_
  refine ⟨_,rfl,wpAny_letOwnedTupleGo_zip (s:={ s with heap:=h' }) z1 fun h2 z2 sb=>?_⟩
  have hn:H s.heap.objs.size=none:=I.hok.fresh (i6 _)
  have zlt:z<s.heap.objs.size:=i5 st.zz
  have k2:∀c o,c ∉ [z,TI,TO,i1,i2]->s.heap.get? c=some o->h2.get? c=some o:=fun c o hc e=>by
   simp only[A0,y7,or_false,not_or] at hc
   exact sb.extBut _ _ hc.1 (keep c o (by simp only[A0,y7,or_false,not_or];exact ⟨hc.1,hc.2.2.1,hc.2.2.2.1,hc.2.2.2.2⟩) e)
  have e0:h2.get? s.heap.objs.size=some { cls:=.type "tuple",data:=.seq #[u,v] }:=sb.extBut _ _ (B9 zlt) new
  have pne:∀c o,s.heap.get? c=some o->c≠s.heap.objs.size:=fun c o e=>n0 (i5 e)
  have nit:∀c u,H c=some u->c ∉ [z,TI,TO,i1,i2]:=fun c u e q=>by rw[(hf c q).1] at e;cases e
  have hok:cG X.prog X.w (n8 H s.heap.objs.size (.tup [x,y])) h2:=fun c ob e=>by
   by_cases hq:c=s.heap.objs.size
   ·subst hq
    rw[f9] at e;cases e
    exact ⟨by show 2<=i0;decide,[u,v],.cons ru (.cons rv .nil),⟨_,e0,rfl,_,rfl⟩⟩
   ·rw[A1 hq] at e
    refine (I.hok c ob e).stay (fun d w' hd q=>k2 d w' ?_ q) (fun d q=>by rw[A1 (v5 q hn)];exact q) fun d xs q=>by rw[A1 (v5 q hn)];exact q
    rcases hd with rfl|hd
    ·exact nit d ob e
    ·exact nit d _ hd
  have I2:C8 X pins σ (n8 H s.heap.objs.size (.tup [x,y])) { s with heap:=h2 }:=by
   refine I.step (g':=s.gens) (d':=s.drawn) (t':=s.toks) (ch:=[z,TI,TO,i1,i2]) (fun c hc=>⟨(hf c hc).2.2.2.1,(hf c hc).2.1,(hf c hc).2.2.2.2.1,(hf c hc).2.2.2.2.2⟩) (fun c o _ _ hc e _=>k2 c o hc e) (fun c o _ _ hc e _=>⟨o.slots,k2 c o hc e⟩)
    (fun c o _ e n=>by rw[A1 (pne c o e)];exact n) (fun c o hc e=>⟨o,k2 c o hc e⟩) (fun c xs e=>by rw[A1 (v5 e hn)];exact e) (fun c o u e=>by rw[A1 (v5 e hn)];exact e) (fun c ps e=>⟨#[],by rw[A1 (v5 e hn),e];simp⟩) (fun m hm=>?_) hok I.bare
   obtain ⟨o,es,ep,ho,r⟩:=hm
   exact ⟨o,es,ep,k2 _ o (fun q=>(hf _ q).2.1 rfl) ho,r⟩
  refine ⟨.ref s.heap.objs.size,_,I2,rfl,⟨_,x,y,hn,rfl,rfl,fun xs' h'=>by rw[I.sqB_inj h' ha];exact hx,fun ys' h'=>by rw[I.sqB_inj h' hb];exact hy⟩,?_,fun c hc=>?_⟩
  ·exact ⟨z2,sb.extBut _ _ D.a1 (keep _ _ (by simp only[A0,y7,or_false,not_or];exact ⟨D.a1,D.b1,D.b2,D.b3⟩) st.ti),⟨_,_,sb.extBut _ _ D.a2 o1⟩,j1.at fun o e=>sb.extBut _ o D.a3 e,j2.at fun o e=>sb.extBut _ o D.a4 e⟩
  ·have hlt:c<s.heap.objs.size:=by
    obtain ⟨hz,hTI,⟨_,_,hTO⟩,h1,h2⟩:=st
    obtain ⟨_,h1,_⟩:=h1.ob
    obtain ⟨_,h2,_⟩:=h2.ob
    simp only[A0,y7,or_false] at hc
    rcases hc with rfl|rfl|rfl|rfl|rfl
    ·exact i5 hz
    ·exact i5 hTI
    ·exact i5 hTO
    ·exact i5 h1
    ·exact i5 h2
   rw[A1 (n0 hlt)]
   exact (hf c hc).1
 done:=by
  intro X hP hw hK hc i pins s σ H E I hf st hg
  subst hP hw hK
  obtain ⟨xs,ha,hx⟩:=hg
  obtain ⟨its,r1,p1⟩:=I.sqB ha
  have hl:=r1.length
  refine Co (I.ok.hd hc) D st p1 (by simp;lia) fun h' keep=>⟨rfl,I.turnedL (t':=s.toks) (ch:=[z,TI,TO,i1,i2]) (fun c o hc e=>keep c o (fun q=>hc ?_) e) hf⟩
  simp only[A0,y7,or_false] at q ⊢
  rcases q with q|q|q|q
  ·exact .inl q
  ·exact .inr (.inr (.inl q))
  ·exact .inr (.inr (.inr (.inl q)))
  ·exact .inr (.inr (.inr (.inr q)))
 self:=fun _ _ _ _ _ st h=>Mi st.zz h
theorem kT {q:Bool}{R:It->Hp->Prop}{J:It}{pt:Pos}{b:Addr}{ys:List V} (I:C8 X pins σ H s) (hx:EN p X.K H a xs) (hy:EN q X.K H b ys)
  (T:∀{z TI TO i1 i2:Addr},yJ z TI TO i1 i2 a b->rS X.prog X.w X.K (.Tuple es kk pt) J [z,TI,TO,i1,i2] z (fun i h=>Bq p q h z TI TO i1 i2 a b i)) (h:R J H):
  j6 (r6 X.prog X.w) X.A (call (.type "zip") [.ref a,.ref b]) (fun v s1=>j6 (r6 X.prog X.w) X.A (nW v) (Mb X pins σ (.Tuple es kk pt) R) X.xe s1) X.xe s:=by
 obtain ⟨its,r1,p1⟩:=I.sqB hx
 obtain ⟨its2,r2,p2⟩:=I.sqB hy
 refine Bj p1 p2 fun h' Z keep sz=>?_
 refine Mi (s:={ s with heap:=h' }) Z.zz ?_
 have I2:C8 X pins σ H { s with heap:=h' }:=I.kept (t':=s.toks) keep
 refine ⟨s.heap.objs.size+4,[s.heap.objs.size+4,s.heap.objs.size+2,s.heap.objs.size+3,s.heap.objs.size,s.heap.objs.size+1],_,_,H,rfl,I2,T (yJ.new p1.lt p2.lt),Z,fun c hc=>?_,h⟩
 have hge:s.heap.objs.size<=c:=by
  simp only[A0,y7,or_false] at hc
  rcases hc with rfl|rfl|rfl|rfl|rfl <;> first|exact E6 _ _|exact i6 _
 exact I.fpOk hge (I.hok.fresh hge)
theorem uf {D:List V->Hp->(It->Hp->Prop)->Prop}{e1 e2:Expr}{pt p pos:Pos}{ta:TA} (hg:Gl X "zip") (hm:X.mg "zip"=none) (ha:PA X [e1,e2] ta)
  (hD:∀{pins s σ H vs R},C8 X pins σ H s->D vs H R->∃a b,vs=[V.ref a,V.ref b]/\j6 (r6 X.prog X.w) X.A (call (.type "zip") [.ref a,.ref b]) (fun v s1=>j6 (r6 X.prog X.w) X.A (nW v) (Mb X pins σ (.Tuple es kk pt) R) X.xe s1) X.xe s)
  (hs:A4 [e1,e2] X.env=[(false,eval e1 X.env),(false,eval e2 X.env)]) (hs2:A4 [e2] X.env=[(false,eval e2 X.env)]):
  PI X (.Tuple es kk pt) (.Call (.Name "zip" p) [e1,e2] [] pos) (fun σ H R=>ta σ H fun vs H1=>D vs H1 R):=by
 intro pins s σ H R I h
 refine Call_ (mJ I hg hm boot_zip (af (W8 (ha pos pins s σ H _ I h) fun us s1 ⟨vs,H1,I1,r1,q1⟩=>?_) (by rw[hs,hs2]) (by rw[hs2];rfl)))
 obtain ⟨a,b,rfl,q⟩:=hD I1 q1
 cases r1 with
 | cons ra rr =>
  cases rr with
  | cons rb rr =>
   cases rr
   cases ra
   cases rb
   exact q
end
section
variable {X:Cx}
noncomputable def Itz (K:m6) (a b:Addr):It :=
 ⟨fun i H=>∃xs ys x y,dI K H a xs/\dI K H b ys/\xs[i]?=some x/\ys[i]?=some y,fun i H v H'=>∃p x y,H p=none/\v=.ref p/\H'=n8 H p (.tup [x,y])/\(∀xs,dI K H a xs->xs[i]?=some x)/\∀ys,dI K H b ys->ys[i]?=some y,
  fun i H=>∃xs,dI K H a xs/\xs.length<=i⟩
noncomputable def iZip (K:m6) (ta:TA):TI:=fun σ H R=>ta σ H fun vs H1=>∃a b xs ys,vs=[.ref a,.ref b]/\dI K H1 a xs/\dI K H1 b ys/\R (Itz K a b) H1
theorem xZ {e1 e2:Expr}{es:List Expr}{kk:Nat}{pt p pos:Pos}{ta:TA} (hg:Gl X "zip") (hm:X.mg "zip"=none) (ha:PA X [e1,e2] ta) (hs:A4 [e1,e2] X.env=[(false,eval e1 X.env),(false,eval e2 X.env)]:=by rfl) (hs2:A4 [e2] X.env=[(false,eval e2 X.env)]:=by rfl):
  PI X (.Tuple es kk pt) (.Call (.Name "zip" p) [e1,e2] [] pos) (iZip X.K ta):=
 uf hg hm ha (fun I ⟨_,_,_,_,e,hx,hy,h⟩=>⟨_,_,e,kT (p:=false) (q:=false) I hx hy (fun D=>jw D) h⟩) hs hs2
end
mutual
noncomputable def Dt (st:Addr) (H:Hp):A7->V->Prop
 | .none,v=>v=.non
 | .bool b,v=>v=.bl b
 | .int i,v=>v=.int i
 | .str x,v=>v=.str x
 | .tuple ds,v=>∃a xs,v=.ref a/\a≠st/\H a=some (.tup xs)/\U3 st H ds xs
 | .list ds,v=>∃a xs,v=.ref a/\a≠st/\H a=some (.lst xs)/\U3 st H ds xs
 | .dict _,v=>∃a ks,v=.ref a/\a≠st/\H a=some (.dK ks)
noncomputable def U3 (st:Addr) (H:Hp):List A7->List V->Prop
 | [],xs=>xs=[]
 | d::ds,xs=>∃x r,xs=x::r/\Dt st H d x/\U3 st H ds r
end
noncomputable def Kp (st:Addr) (H H':Hp):Prop:=∀b o,b≠st->H b=some o->H' b=some o
theorem Kp.refl (st:Addr) (H:Hp):Kp st H H:=fun _ _ _ e=>e
theorem Kp.trans {st:Addr}{H1 H2:Hp} (a:Kp st H H1) (b:Kp st H1 H2):Kp st H H2:=fun c o n e=>b c o n (a c o n e)
theorem i8.kp (a:i8 H H') (st:Addr):Kp st H H':=fun b o _ e=>a b o e
variable {o:HO}
theorem i8.new {p:Addr}(h:H p=none):i8 H (n8 H p o):=fun b u q=>by rw[A1 (v5 q h)];exact q
theorem Kp.new {st:Addr}{H:Hp}{p:Addr}{o:HO} (h:H p=none):Kp st H (n8 H p o):=(i8.new h).kp st
theorem Kp.at {st:Addr}:Kp st H (n8 H st o):=fun b u n q=>by rw[A1 n];exact q
mutual
theorem Dt.kp {st:Addr}{H H':Hp} (k:Kp st H H'):∀{d:A7}{v:V},Dt st H d v->Dt st H' d v
 | .none,_,h=>by unfold Dt at h ⊢;exact h
 | .bool _,_,h=>by unfold Dt at h ⊢;exact h
 | .int _,_,h=>by unfold Dt at h ⊢;exact h
 | .str _,_,h=>by unfold Dt at h ⊢;exact h
 | .tuple ds,_,h=>by
  unfold Dt at h ⊢
  obtain ⟨a,xs,e,n,q,r⟩:=h
  exact ⟨a,xs,e,n,k a _ n q,U3.kp k r⟩
 | .list ds,_,h=>by
  unfold Dt at h ⊢
  obtain ⟨a,xs,e,n,q,r⟩:=h
  exact ⟨a,xs,e,n,k a _ n q,U3.kp k r⟩
 | .dict kvs,_,h=>by
  unfold Dt at h ⊢
  obtain ⟨a,ks,e,n,q⟩:=h
  exact ⟨a,ks,e,n,k a _ n q⟩
theorem U3.kp {st:Addr}{H H':Hp} (k:Kp st H H'):∀{ds:List A7}{xs:List V},U3 st H ds xs->U3 st H' ds xs
 | [],_,h=>by unfold U3 at h ⊢;exact h
 | d::ds,_,h=>by
  unfold U3 at h ⊢
  obtain ⟨x,r,e,q1,q2⟩:=h
  exact ⟨x,r,e,Dt.kp k q1,U3.kp k q2⟩
end
theorem Dt.int (st:Addr) (H:Hp) (i:Int):Dt st H (.int i) (.int i):=by unfold Dt;rfl
theorem Dt.bl (st:Addr) (H:Hp) (b:Bool):Dt st H (.bool b) (.bl b):=by unfold Dt;rfl
theorem Dt.non (st:Addr) (H:Hp):Dt st H .none .non:=by unfold Dt;rfl
theorem Dt.str (st:Addr) (H:Hp) (x:Str):Dt st H (.str x) (.str x):=by unfold Dt;rfl
theorem Dt.tup {st:Addr}{H:Hp}{a:Addr}{xs:List V}{ds:List A7} (n:a≠st) (h:H a=some (.tup xs)) (r:U3 st H ds xs):Dt st H (.tuple ds) (.ref a):=by unfold Dt;exact ⟨a,xs,rfl,n,h,r⟩
theorem Dt.lst {st:Addr}{H:Hp}{a:Addr}{xs:List V}{ds:List A7} (n:a≠st) (h:H a=some (.lst xs)) (r:U3 st H ds xs):Dt st H (.list ds) (.ref a):=by unfold Dt;exact ⟨a,xs,rfl,n,h,r⟩
theorem U3.nil (st:Addr) (H:Hp):U3 st H [] []:=by unfold U3;rfl
theorem U3.cons {st:Addr}{H:Hp}{d:A7}{ds:List A7}{x:V}{xs:List V} (h:Dt st H d x) (r:U3 st H ds xs):U3 st H (d::ds) (x::xs):=by unfold U3;exact ⟨x,xs,rfl,h,r⟩
theorem U3.uncons {st:Addr}{d:A7}{ds:List A7}{xs:List V} (h:U3 st H (d::ds) xs):∃x r,xs=x::r/\Dt st H d x/\U3 st H ds r:=by unfold U3 at h;exact h
theorem U3.len {st:Addr}{H:Hp}:∀{ds:List A7}{xs:List V},U3 st H ds xs->ds.length=xs.length
 | [],_,h=>by unfold U3 at h;subst h;rfl
 | d::ds,_,h=>by
  obtain ⟨x,r,e,_,q⟩:=h.uncons
  subst e
  rw[m9,m9,U3.len q]
theorem U3.append {st:Addr}{H:Hp}:∀{ds es:List A7}{xs ys:List V},U3 st H ds xs->U3 st H es ys->U3 st H (ds++es) (xs++ys)
 | [],_,_,_,h,q=>by unfold U3 at h;subst h;exact q
 | d::ds,_,_,_,h,q=>by
  obtain ⟨x,r,e,h1,h2⟩:=h.uncons
  subst e
  exact U3.cons h1 (U3.append h2 q)
theorem U3.get {st:Addr}{H:Hp}:∀{ds:List A7}{xs:List V}{i:Nat}{x:V},U3 st H ds xs->xs[i]?=some x->∃d,ds[i]?=some d/\Dt st H d x
 | [],_,i,x,h,e=>by unfold U3 at h;subst h;simp at e
 | d::ds,_,0,x,h,e=>by
  obtain ⟨y,r,e1,h1,h2⟩:=h.uncons
  subst e1
  simp at e;subst e
  exact ⟨d,rfl,h1⟩
 | d::ds,_,i+1,x,h,e=>by
  obtain ⟨y,r,e1,h1,h2⟩:=h.uncons
  subst e1
  obtain ⟨d',e2,h3⟩:=U3.get (i:=i) (x:=x) h2 (by simpa using e)
  exact ⟨d',by simpa using e2,h3⟩
theorem U3.ints (st:Addr) (H:Hp):∀ns:List Int,U3 st H (ns.map K8) (ns.map V.int)
 | []=>U3.nil st H
 | n::ns=>U3.cons (Dt.int st H n) (U3.ints st H ns)
theorem U3.ints_eq {st:Addr}{H:Hp}:∀{ns:List Int}{xs:List V},U3 st H (ns.map K8) xs->xs=ns.map V.int
 | [],_,h=>by unfold U3 at h;exact h
 | n::ns,_,h=>by
  rw[A9] at h
  obtain ⟨x,r,e,h1,h2⟩:=h.uncons
  unfold Dt at h1
  rw[e,h1,U3.ints_eq h2,A9]
noncomputable abbrev DI (ns:List Int):A7:=.tuple (ns.map .int)
variable {ns:List Int}{v:V}
theorem Dt.di {st:Addr}(h:Dt st H (DI ns) v):∃a,v=.ref a/\a≠st/\H a=some (.tup (ns.map V.int)):=by
 unfold DI Dt at h
 obtain ⟨a,xs,e,n,q,r⟩:=h
 exact ⟨a,e,n,by rw[q,r.ints_eq]⟩
variable {a:Addr}
theorem Dt.mkI {st:Addr}(n:a≠st) (h:H a=some (.tup (ns.map V.int))):Dt st H (DI ns) (.ref a):=Dt.tup n h (U3.ints st H ns)
mutual
theorem Dt.reads {P:j7}{w:u9}{st:Addr}{H:Hp}{h:Heap} (ok:cG P w H h):∀{d:A7}{v:V}{u:b9},d.canLay0=true->Dt st H d v->K2 v u->∃as,Reads h u d as
 | .none,_,u,_,q,r=>by unfold Dt at q;subst q;cases r;exact ⟨[],.none⟩
 | .bool b,_,u,_,q,r=>by unfold Dt at q;subst q;cases r;exact ⟨[],.bool b⟩
 | .int i,_,u,_,q,r=>by unfold Dt at q;subst q;obtain ⟨t,rfl⟩:=r;exact ⟨[],.int i t⟩
 | .str x,_,u,_,q,r=>by unfold Dt at q;subst q;obtain ⟨t,rfl⟩:=r;exact ⟨[],.str x t⟩
 | .tuple ds,_,u,cl,q,r=>by
  unfold N3 at cl
  unfold Dt at q
  obtain ⟨a,xs,e,n,hq,rs⟩:=q
  subst e
  cases r
  obtain ⟨_,its,rv,o,ho,hc,m,hd⟩:=ok a _ hq
  obtain ⟨as,ra⟩:=U3.reads ok cl rs rv
  exact ⟨as,.tuple ho hc hd (by simpa using ra)⟩
 | .list ds,_,u,cl,q,r=>by
  unfold N3 at cl
  unfold Dt at q
  obtain ⟨a,xs,e,n,hq,rs⟩:=q
  subst e
  cases r
  obtain ⟨_,its,m,rv,ho⟩:=ok a _ hq
  obtain ⟨as,ra⟩:=U3.reads ok cl rs rv
  exact ⟨a::as,.list ho rfl rfl (by simpa using ra)⟩
 | .dict kvs,_,u,cl,q,r=>by unfold N3 at cl;cases cl
theorem U3.reads {P:j7}{w:u9}{st:Addr}{H:Hp}{h:Heap} (ok:cG P w H h):∀{ds:List A7}{xs:List V}{us:List b9},L6 ds=true->U3 st H ds xs->K4 xs us->∃as,ReadsAll h us ds as
 | [],_,us,_,q,r=>by unfold U3 at q;subst q;cases r;exact ⟨[],.nil⟩
 | d::ds,_,us,cl,q,r=>by
  unfold L6 at cl
  rw[y6] at cl
  obtain ⟨x,rr,e,h1,h2⟩:=q.uncons
  subst e
  cases r with
  | cons r1 r2 =>
   obtain ⟨as,ra⟩:=Dt.reads ok cl.1 h1 r1
   obtain ⟨bs,rb⟩:=U3.reads ok cl.2 h2 r2
   exact ⟨as++bs,.cons ra rb⟩
end
theorem gW {d:A7} (h:Y3 d=true):d.canLay0=true:=by
 unfold Y3 at h
 rw[y6] at h
 exact h.1
section
variable {X:Cx}
noncomputable def rEqD:R2:=fun x y H Q=>∃st d e,Dt st H d x/\Dt st H e y/\Y3 d=true/\Y3 e=true/\Q (.bl (aj d e)) H
noncomputable def KM:R2:=fun x y H Q=>∃st d e,Dt st H d x/\Dt st H e y/\Y3 d=true/\Y3 e=true/\Q (.bl (!PyData.eqv d e)) H
theorem IH (hu:X.A.units+64<fA):jQ X (T6 .Eq) rEqD:=by
 intro pins s σ H x y v u Q I rx ry h
 obtain ⟨st,d,e,h1,h2,s1,s2,q⟩:=h
 obtain ⟨as,ra⟩:=h1.reads I.hok (gW s1) rx
 obtain ⟨bs,rb⟩:=h2.reads I.hok (gW s2) ry
 exact eq_dataH ra rb s1 s2 hu (O9 I q rfl)
theorem Dn (hu:X.A.units+64<fA):jQ X (T6 .NotEq) KM:=by
 intro pins s σ H x y v u Q I rx ry h
 obtain ⟨st,d,e,h1,h2,s1,s2,q⟩:=h
 obtain ⟨as,ra⟩:=h1.reads I.hok (gW s1) rx
 obtain ⟨bs,rb⟩:=h2.reads I.hok (gW s2) ry
 exact ne_dataH ra rb s1 s2 hu (O9 I q rfl)
noncomputable def HM:A7->String
 | .none=>"NoneType"
 | .bool _=>"bool"
 | .int _=>"int"
 | .str _=>"str"
 | .list _=>"list"
 | .tuple _=>"tuple"
 | .dict _=>"dict"
theorem Dt.ty {K:m6}{st:Addr}{H:Hp}{d:A7}{v:V} (h:Dt st H d v):mT K H v (.type (HM d)):=by
 cases d with
 | none=>unfold Dt at h;subst h;exact .non
 | bool b=>unfold Dt at h;subst h;exact .bl b
 | int i=>unfold Dt at h;subst h;exact .int i
 | str x=>unfold Dt at h;subst h;exact .str x
 | list ds=>unfold Dt at h;obtain ⟨a,xs,e,_,q,_⟩:=h;subst e;exact .lst q
 | tuple ds=>unfold Dt at h;obtain ⟨a,xs,e,_,q,_⟩:=h;subst e;exact .tup q
 | dict kvs=>unfold Dt at h;obtain ⟨a,ks,e,_,q⟩:=h;subst e;exact .dK q
noncomputable def zD:A7->Bool
 | .bool _=>true
 | _=>false
noncomputable def Ja:A7->Bool
 | .bool _=>true
 | .int _=>true
 | _=>false
noncomputable def IZ:A7->Bool
 | .tuple _=>true
 | _=>false
noncomputable def FU:A7->Bool
 | .list _=>true
 | _=>false
theorem lB (K:m6) (d:A7):cI K (.type (HM d)) (.type "bool")=some (zD d):=by cases d <;> kernel_rfl
theorem zu (K:m6) (d:A7):cI K (.type (HM d)) (.type "int")=some (Ja d):=by cases d <;> kernel_rfl
theorem cB (K:m6) (d:A7):cI K (.type (HM d)) (.type "tuple")=some (IZ d):=by cases d <;> kernel_rfl
theorem gv (K:m6) (d:A7):cI K (.type (HM d)) (.type "list")=some (FU d):=by cases d <;> kernel_rfl
theorem M8 {T:String}{f:A7->Bool} (hk:∀K d,cI K (.type (HM d)) (.type T)=some (f d)):
  bE X (.builtin "isinstance") (fun xs H Q=>∃x st d,xs=[x,.ty T]/\Dt st H d x/\Q (.bl (f d)) H):=by
 intro pins s σ H xs us Q I r h
 obtain ⟨x,st,d,rfl,hd,q⟩:=h
 cases r with
 | cons r1 rr =>
  cases rr with
  | cons r2 rr =>
   cases rr
   cases r2
   exact AY I r1 (hd.ty (K:=X.K)) (hk X.K d) fun tk=>⟨.bl (f d),H,I.tok tk,rfl,q⟩
theorem lj:jQ X (Y2 .FloorDiv) (rI (fun _ j=>0<j/\j.natAbs.log2<9000) fun i j=>.int (i / j)):=JK fun i j _ _ _ _ _ hc q =>
 floordiv_int (by have:=hc.1;lia) (by rw[vm i (by have:=hc.1;lia)];exact q) (.inl (PyProof.noPylong_of_log2 hc.2))
theorem dj:jQ X (Y2 .Mult) (rI (fun i j=>A6 i<=2 ^ 20/\A6 j<=2 ^ 20) fun i j=>.int (i*j)):=JK fun _ _ _ _ _ _ _ hc q=>mul_int q (.of_bits hc.1 hc.2)
noncomputable def KQ (K:m6):R2:=fun x y H Q=>∃a b xs ys,x=.ref a/\y=.ref b/\dI K H a xs/\dI K H b ys/\xs.length+ys.length<=i0 /\
 (xs=[]->Q (.ref b) H)/\(xs≠[]->ys=[]->Q (.ref a) H)/\(xs≠[]->ys≠[]->∀p,H p=none->Q (.ref p) (n8 H p (.tup (xs++ys))))
theorem FJ:jQ X (Y2 .Add) (KQ X.K):=by
 intro pins s σ H x y v u Q I rx ry h
 obtain ⟨a,b,xs,ys,rfl,rfl,ha,hb,hz,q0,q1,q2⟩:=h
 by_cases hx:xs=[]
 ·subst hx
  cases rx
  cases ry
  obtain ⟨its,r1,p1,_⟩:=I.tuple ha
  obtain ⟨its2,r2,p2,_⟩:=I.tuple hb
  cases r1
  obtain ⟨⟨cls,dd,data,sl⟩,ho,hc,n,hd⟩:=id p1
  obtain ⟨⟨cls2,dd2,data2,sl2⟩,ho2,hc2,n2,hd2⟩:=id p2
  simp only at hc hd hc2 hd2
  subst hc hd hc2 hd2
  exact EW ⟨_,ho,rfl⟩ ⟨_,ho2,rfl⟩ vg BN iK gO (fY _ _)
   (tuple_addW0 a b _ _ n n2 dd dd2 sl sl2 (by rfl)) ⟨ho,ho2,⟨.ref b,H,I,rfl,q0 rfl⟩⟩
 ·exact FI pins s σ H _ _ v u Q I rx ry ⟨a,b,xs,ys,rfl,rfl,ha,hb,hx,hz,q1 hx,q2 hx⟩
end
section
variable {prog:j7}{w:u9}{A:A8}{E:b9->d9->Prop}{s:d9}
theorem rR {t sl:Addr}{items:Array b9}{vl vu:b9}{lo hi:Option Int}{Q:b9->d9->Prop} (ht:xj s.heap t items) (hs:s.heap.IsSliceOf sl vl vu .none) (pl:nY vl lo) (pu:nY vu hi)
  (hw:HT.dg items.size 0 lo=0/\HT.dg items.size items.size hi=items.size) (h:Q (.ref t) s):j6 (r6 prog w) A (jt (.ref t) (.ref sl)) Q E s:=by
 obtain ⟨os,hos,hcs,hds⟩:=id hs
 have hTs:s.TypeIs (.ref sl) "slice":=⟨os,hos,hcs⟩
 unfold jt
 try with_reducible refine L8 ?_
 first|refine b7 (d6 ?_)|skip
 refine b7 (LN ht.typeIs (by decide) ?_)
 refine b7 (C0 (name:=P9 "__getitem__") ht.typeIs X2
  (D5 X2 ht.typeIs Jw ?_ (JW _ _)))
 show j6 _ _ (lX (.ref t) >>= _) _ _ s
 refine b7 (tupleItemsOf_ ht (b7 (sS hTs ?_)))
 rw[if_pos (by decide)]
 refine b7 (HT.gn hs pl pu ?_)
 show j6 _ _ (if (((HT.dg items.size 0 lo:Nat):Int) == 0&&(1:Int) == 1&&(HT.dg items.size items.size hi - HT.dg items.size 0 lo) == items.size)=true then _ else _) _ _ s
 rw[if_pos (by rw[hw.1,hw.2];simp)]
 refine b7 (m:=lY (.ref t)) ?_
 unfold lY
 refine b7 (sS ht.typeIs (d6 ?_))
 rw[if_pos (by decide)]
 refine b7 (Q9 ?_)
 first
  | exact d6 ⟨_,rfl,d6 h⟩
  | exact b7 (d6 (d6 ⟨_,rfl,d6 h⟩))
end
section
variable {X:Cx}
noncomputable def rSlA (K:m6):V->Option Int->Option Int->Hp->VK->Prop:=fun x lo hi H Q=>∃a xs,x=.ref a/\dI K H a xs /\
 ((HT.dg xs.length 0 lo=0/\HT.dg xs.length xs.length hi=xs.length)->Q (.ref a) H) /\
 (¬ (HT.dg xs.length 0 lo=0/\HT.dg xs.length xs.length hi=xs.length)->∀p,H p=none->Q (.ref p) (n8 H p (.tup (jO xs lo hi))))
theorem Ib:Ma X (rSlA X.K):=by
 intro pins s σ H x v vl vu lo hi sl Q I rx hs pl pu h
 obtain ⟨a,xs,rfl,hx,q1,q2⟩:=h
 by_cases hw:HT.dg xs.length 0 lo=0/\HT.dg xs.length xs.length hi=xs.length
 ·cases rx
  obtain ⟨its,r,ht,hz⟩:=I.tuple hx
  have hlen:its.toArray.size=xs.length:=by rw[q9];exact r.length.symm
  exact ⟨"tuple",_,PyProof.Rows.slot_tuple_getitem.lookup,ht.typeIs,rR ht hs pl pu (by rw[hlen];exact hw) ⟨.ref a,H,I,rfl,q1 hw⟩⟩
 ·exact Ia pins s σ H _ v vl vu lo hi sl Q I rx hs pl pu ⟨a,xs,rfl,hx,hw,q2 hw⟩
theorem sx:JT (.type "tuple") (dunderR "mul")=pure (some (.builtin "tuple.__rmul__")):=by rw[typeLookup_type,builtinLookup_eq_fast];kernel_rfl
theorem gs:fillsNumberSlot (.type "tuple") "mul"=pure false :=
 PySem.fillsNumberSlot_seq (id:="tuple.__mul__") (r:=some (.builtin "tuple.__rmul__")) F.slot_tuple_mul.lookup (by decide +kernel) sx (by decide +kernel)
theorem kY:seqRepeat? (.type "tuple")=pure (some (.builtin "tuple.__mul__")):=by
 unfold seqRepeat?
 rw[Fe (T:="tuple") (name:="__mul__") (id:="tuple.__mul__") F.slot_tuple_mul.lookup (by decide +kernel),Fe (T:="tuple") (name:="__rmul__") (id:="tuple.__rmul__") sx (by decide +kernel)]
 rfl
theorem pX (a:Int) (t:Tok) (l:Addr) (items:Array b9) (n:Nat) (dd:Option Addr) (sl:Array (Option b9)):
  Hv (cg.«int.__rmul__» ⟨[.int a t,.ref l],[]⟩) (fun _ R s=>s.heap.get? l=some { cls:=.type "tuple",dict:=dd,data:=.seq items n,slots:=sl }/\R (.ok (.ret Al)) s):=
 .of_wp fun prog w A R s h=>by obtain ⟨hp,g,d,tk,os⟩:=s;obtain ⟨hl,h⟩:=h;wp_walk;exact ⟨_,rfl,h⟩
theorem yn (l:Addr) (items:Array b9) (n:Nat) (dd:Option Addr) (sl:Array (Option b9)) (t:Tok):
  Hv (cg.«tuple.__mul__» ⟨[.ref l,.int 1 t],[]⟩) (fun _ R s=>s.heap.get? l=some { cls:=.type "tuple",dict:=dd,data:=.seq items n,slots:=sl }/\R (.ok (.ret (.ref l))) s):=
 .of_wp fun prog w A R s h=>by
  obtain ⟨hp,g,d,tk,os⟩:=s;obtain ⟨hl,h⟩:=h
  wp_walk
  exact ⟨_,rfl,h⟩
theorem yl (l:Addr) (v:b9) (n:Nat) (dd:Option Addr) (sl:Array (Option b9)) (k:Int) (t:Tok) (hk:k=2 ∨ k=3 ∨ k=4):
  Hv (cg.«tuple.__mul__» ⟨[.ref l,.int k t],[]⟩) (fun _ R s=>s.heap.get? l=some { cls:=.type "tuple",dict:=dd,data:=.seq #[v] n,slots:=sl } /\
   R (.ok (.ret (.ref s.heap.objs.size))) { s with heap:=s.heap.push { cls:=.type "tuple",data:=.seq (u5 k.toNat v).toArray } }):=
 .of_wp fun prog w A R s h=>by
  obtain ⟨hp,g,d,tk,os⟩:=s;obtain ⟨hl,h⟩:=h
  rcases hk with rfl|rfl|rfl
  ·wp_walk
   exact ⟨_,rfl,h⟩
  ·wp_walk
   exact ⟨_,rfl,h⟩
  ·wp_walk
   exact ⟨_,rfl,h⟩
noncomputable def KL (K:m6):R2:=fun x y H Q=>∃a v k,x=.ref a/\y=.int k/\dI K H a [v]/\1<=k/\k<=4/\(k=1->Q (.ref a) H)/\(k≠1->∀p,H p=none->Q (.ref p) (n8 H p (.tup (u5 k.toNat v))))
theorem vp {v:V}{u:b9} (r:K2 v u):∀n:Nat,K4 (u5 n v) (u5 n u)
 | 0=>.nil
 | n+1=>.cons r (vp r n)
theorem FH:jQ X (Y2 .Mult) (KL X.K):=by
 intro pins s σ H x y w' u Q I rx ry h
 obtain ⟨a,v,k,rfl,rfl,ha,h1,h4,q1,q2⟩:=h
 cases rx
 obtain ⟨t,rfl⟩:=ry
 obtain ⟨its,r,p1,_⟩:=I.tuple ha
 cases r with
 | cons r1 rr =>
  cases rr
  obtain ⟨⟨cls,dd,data,sl⟩,ho,hc,n,hd⟩:=id p1
  simp only at hc hd
  subst hc hd
  refine Bv (T:="tuple") (U:="int") (by decide) ⟨_,ho,rfl⟩ (fun s'=>rB s' k t) gs LX kO kY F.slot_int_index.lookup
   (iJ kO (rB s k t) Kj (JG _ _) (pX k t a _ n dd sl) ⟨ho,rfl,⟨_,ho,rfl⟩,?_⟩)
  by_cases hk:k=1
  ·subst hk
   exact iJ tu ⟨_,ho,rfl⟩ rG (oX _ _) (yn a _ n dd sl t) ⟨ho,⟨.ref a,H,I,rfl,q1 rfl⟩⟩
  ·refine iJ tu ⟨_,ho,rfl⟩ rG (oX _ _) (yl a _ n dd sl k t (by lia)) ⟨ho,?_⟩
   refine ⟨.ref s.heap.objs.size,_,I.laid (t':=s.toks) (o:=.tup (u5 k.toNat v)) (fun b ob q=>d7 _ q) (i6 _) ?_,rfl,q2 hk _ (I.hok.fresh (i6 _))⟩
   exact ⟨by rw[P1];exact j0 (show k.toNat<=1000 by lia) (aC (so (i6 _))),_,vp r1 _,iL _ _⟩
end
structure W5 (P:j7) (w:u9) (K:m6) (mg:Str->Option b9) (base:Heap) (k:Nat) (x:Str) (ps:List Str) (sp:Sp):Prop where
 ex:∃f fd,mg x=some (.ref f)/\cJ K (.ref f)=true/\jY K fd ps []/\O5 P w K mg base dQ k f fd ps sp
variable {P:j7}{w:u9}{K:m6}{mg:Str->Option b9}{base:Heap}{ps:List Str}{sp:Sp}
theorem W5.up {j:Nat}(C:W5 P w K mg base j x ps sp) (h:j<=k):W5 P w K mg base k x ps sp :=
 let ⟨f,fd,a,b,c,d⟩:=C.ex;⟨f,fd,a,b,c,d.mono h⟩
noncomputable def JJ (sp:Sp) (t:TA):TE:=fun σ H Q=>t σ H fun vs H1=>sp vs H1 Q E0
section
variable {X:Cx}{k:Nat}{x:Str}{ps:List Str}{sp:Sp}{p pos:Pos}{e:Expr}{es:List Expr}{t:TA}
theorem B4 (C:W5 X.prog X.w X.K X.mg X.base k x ps sp) (hr:cK k X.A) (hg:Gl X x) (ha:PA X (e::es) t)
  (hdb:(x == ("__debug__":Str))=false:=by decide) (he:A4 (e::es) X.env=(false,eval e X.env)::A4 es X.env:=by rfl) (hpl:(aW pos (A4 es X.env)).any (·.1)=false:=by rfl):
  PE X (.Call (.Name x p) (e::es) [] pos) (JJ sp t):=by
 obtain ⟨f,fd,hm,hk,hb,F⟩:=C.ex
 have h:=zh (x:=x) (p:=p) (pos:=pos) F hr hg hm hk hb .nil KU ha hdb he hpl
 have e:Cy sp [] E0 t=JJ sp t:=by
  funext σ H Q
  show t σ H (fun vs H1=>sp (vs++[]) H1 Q E0)=t σ H (fun vs H1=>sp vs H1 Q E0)
  congr 1
  funext vs H1
  rw[V5]
 rw[<- e];exact h
end
section
variable {K:m6}{σ0:St}{te:TE}{H:Hp}{F:List V->Hp->Prop}
theorem ao {lo:Int}{n:Nat} (hn:n<=i0) (Pv:Nat->List V->Hp->Prop) (h0:Pv 0 [] H) (hl:∀i ys H,Pv i ys H->ys.length=i) (hσ:σ0[0]?=some none)
  (hs:∀i ys H,i<n->Pv i ys H->te (σ0.set 0 (some (.int (lo+i)))) H fun y H'=>Pv (i+1) (ys++[y]) H') (hd:∀ys H,Pv n ys H->F ys H):EA (Jt lo n) σ0 (bC 0) X4 te H F:=by
 refine ⟨fun i m ys H=>m=n - i/\i<=n/\Pv i ys H,⟨n,by simp,v8 _,h0⟩,?_⟩
 rintro i m ys H2 ⟨rfl,hi,p⟩
 refine ⟨by rw[hl i ys H2 p];lia,?_⟩
 by_cases hlt:i<n
 ·refine .inr ⟨hlt,fun y H'=>Pv (i+1) (ys++[y]) H',fun _=>False,fun y H' q=>⟨n - (i+1),by lia,rfl,hlt,q⟩,fun _ q=>q.elim,fun x H3 y=>?_⟩
  obtain ⟨rfl,rfl⟩:=y
  exact ⟨Wk.set (.inl hσ),hs i ys _ hlt p⟩
 ·have e:i=n:=by lia
  subst e
  exact .inl ⟨i6 _,hd ys H2 p⟩
theorem oP {a:Addr}{xs:List V} (hn:xs.length<=i0) (Pv:Nat->List V->Hp->Prop) (h0:Pv 0 [] H) (hl:∀i ys H,Pv i ys H->ys.length=i) (hq:∀i ys H,i<=xs.length->Pv i ys H->dI K H a xs) (hσ:σ0[0]?=some none)
  (hs:∀i ys H x,xs[i]?=some x->Pv i ys H->te (σ0.set 0 (some x)) H fun y H'=>Pv (i+1) (ys++[y]) H') (hd:∀ys H,Pv xs.length ys H->F ys H):EA (JO K a) σ0 (bC 0) X4 te H F:=by
 refine ⟨fun i m ys H=>m=xs.length - i/\i<=xs.length/\Pv i ys H,⟨xs.length,by simp,v8 _,h0⟩,?_⟩
 rintro i m ys H2 ⟨rfl,hi,p⟩
 have q:=hq i ys H2 hi p
 refine ⟨by rw[hl i ys H2 p];lia,?_⟩
 by_cases hlt:i<xs.length
 ·refine .inr ⟨⟨xs,xs[i],q,by simp[hlt]⟩,fun y H'=>Pv (i+1) (ys++[y]) H',fun _=>False,fun y H' q=>⟨xs.length - (i+1),by lia,rfl,hlt,q⟩,fun _ q=>q.elim,fun x H3 y=>?_⟩
  obtain ⟨rfl,y⟩:=y
  exact ⟨Wk.set (.inl hσ),hs i ys _ x (y xs q) p⟩
 ·have e:i=xs.length:=by lia
  subst e
  exact .inl ⟨⟨xs,q,i6 _⟩,hd ys H2 p⟩
theorem oO {a b:Addr}{xs ys:List V} (hn:xs.length<=i0) (hxy:xs.length=ys.length) (Pv:Nat->List V->Hp->Prop) (h0:Pv 0 [] H) (hl:∀i zs H,Pv i zs H->zs.length=i)
  (hq:∀i zs H,i<=xs.length->Pv i zs H->dI K H a xs/\dI K H b ys) (hσ:σ0[0]?=some none/\σ0[1]?=some none)
  (hs:∀i zs H x y p,xs[i]?=some x->ys[i]?=some y->H p=none->Pv i zs H->te ((σ0.set 0 (some x)).set 1 (some y)) (n8 H p (.tup [x,y])) fun z H'=>Pv (i+1) (zs++[z]) H') (hd:∀zs H,Pv xs.length zs H->F zs H):
  EA (Itz K a b) σ0 (Ba K 2 (lF (bC 0) (lF (bC 1) DY))) X4 te H F:=by
 refine ⟨fun i m zs H=>m=xs.length - i/\i<=xs.length/\Pv i zs H,⟨xs.length,by simp,v8 _,h0⟩,?_⟩
 rintro i m zs H2 ⟨rfl,hi,p⟩
 obtain ⟨q1,q2⟩:=hq i zs H2 hi p
 refine ⟨by rw[hl i zs H2 p];lia,?_⟩
 by_cases hlt:i<xs.length
 ·refine .inr ⟨⟨xs,ys,xs[i],ys[i]'(by lia),q1,q2,by simp[hlt],by rw[f7 (by lia)]⟩,fun y H'=>Pv (i+1) (zs++[y]) H',fun _=>False,fun y H' q=>⟨xs.length - (i+1),by lia,rfl,hlt,q⟩,fun _ q=>q.elim,fun v H3 yld=>?_⟩
  obtain ⟨r,x,y,hr,rfl,rfl,hx,hy⟩:=yld
  refine ⟨r,[x,y],rfl,.of f9,rfl,x,[y],rfl,y,[],rfl,rfl,?_,?_⟩
  ·refine ⟨by simp,fun j u e=>?_⟩
   by_cases h1:j=1
   ·subst h1;rw[hσ.2] at e;cases e
   ·rw[N8 (F6 h1)]
    by_cases h2:j=0
    ·subst h2;rw[hσ.1] at e;cases e
    ·rw[N8 (F6 h2)];exact e
  ·exact hs i zs _ x y r (hx xs q1) (hy ys q2) hr p
 ·have e:i=xs.length:=by lia
  subst e
  exact .inl ⟨⟨xs,q1,i6 _⟩,hd zs H2 p⟩
end
section
variable {X:Cx}
theorem O8 {x:Str}{T:String}{pos:Pos} (hg:Gl X x) (hm:X.mg x=none) (hv:X1 x=some (.type T)) (hn:x≠"__name__":=by decide) (hd:(x == ("__debug__":Str))=false:=by decide):PE X (.Name x pos) (tC (.ty T)):=FD hg hm hv (v:=.ty T) rfl hn hd
theorem cx {scope:T5}{N:List Str}{s:d9}{H:Hp}{ex:List Addr}{i:Nat}{x:Str}{pos:Pos} (hN:N.Nodup) (hi:N[i]?=some x) (hx:LA (X.comp scope N s H ex).env.scope x)
  (hf:(X.comp scope N s H ex).fn x=true ∨ (X.comp scope N s H ex).env.scope.names.lookup x=some .local):PG (X.comp scope N s H ex) (.Name x pos) (bC i):=W3 hN hi hx hf
end
theorem sz (h:n<=1000):n<=i0:=aC (so h)
section
variable {X:Cx}{K:m6}
theorem lenK (h:X.K=K):bE X (.builtin "len") (fun xs H Q=>∃p ys,xs=[.ref p]/\(dP K H p ys ∨ dI K H p ys)/\Q (.int ys.length) H):=by subst h;exact D6
theorem sumK (h:X.K=K) (hc:X.calm=true):bE X (.builtin "sum") (fun xs H Q=>∃(p:Addr) (ns:List Int),xs=[.ref p]/\(dP K H p (ns.map V.int) ∨ dI K H p (ns.map V.int))/\Q (.int ns.sum) H):=by subst h;exact cC hc
theorem HN (h:X.K=K):bE X (.type "tuple") (fun xs H Q=>∃p ys,xs=[.ref p]/\((dP K H p ys/\∀l,H l=none->Q (.ref l) (n8 H l (.tup ys))) ∨ (dI K H p ys/\Q (.ref p) H))):=by subst h;exact Q6
theorem ixK (h:X.K=K):LD X (Iw K):=by subst h;exact R5
theorem ixLK (h:X.K=K):LD X (Fv K):=by subst h;exact W4
theorem AE (h:X.K=K) {es:List Expr}{k:Nat}{t:GU}{n:Nat}{pos:Pos} (hc:X.calm=true) (hp:Lx X es t)
  (hn:(fE es X.env).length=n:=by rfl) (hst:(fE es X.env).findIdx? (·.1)=none:=by rfl):PG X (.Tuple es k pos) (Ba K n t):=by subst h;exact mB hc hp hn hst
end
noncomputable def Hd (h:Heap) (a C:Addr):Option Addr->Prop
 | none=>∃oe vs,h.get? a=some oe/\oe.cls=.ref C/\oe.dict=none/\oe.data=.fields vs/\vs[1]?=some .none
 | some T=>∃oe vs oT ts,h.get? a=some oe/\oe.cls=.ref C/\oe.dict=none/\oe.data=.fields vs/\vs[1]?=some (.ref T)/\T≠a/\h.get? T=some oT/\oT.data=.fields ts/\ts[3]?=some .none
variable {h:Heap}{C:Addr}
theorem Hd.at {x:Option Addr} (q:Hd h a C x):∃oe vs,h.get? a=some oe/\oe.cls=.ref C/\oe.dict=none/\oe.data=.fields vs:=by
 cases x with
 | none=>obtain ⟨oe,vs,e1,e2,e3,e4,_⟩:=q;exact ⟨oe,vs,e1,e2,e3,e4⟩
 | some T=>obtain ⟨oe,vs,_,_,e1,e2,e3,e4,_⟩:=q;exact ⟨oe,vs,e1,e2,e3,e4⟩
theorem qL (f:Array b9->Array b9) (o:Obj):(R7 f o).dict=o.dict:=by
 obtain ⟨c,d,dt,sl⟩:=o
 cases dt <;> rfl
variable {ev:Env}{out:List Env}{L:Addr}{Q:Unit->d9->Prop}
theorem zK {bs:Heap}{ob:Obj}{us:Array b9}{hdv:b9}{hn:Bool}
  (fr:A.frames=some (ev::out)) (ff:s.heap.FunFrames bs (ev::out)) (fl:ev.frame=some L) (ga:s.heap.get? a=some ob) (gc:ob.cls=.ref C) (gd:ob.dict=none) (gf:ob.data=.fields us) (sz:1<us.size)
  (k:∀h' T,Hd h' a C (some T)->s.heap.objs.size<=T->(∀b o,b≠a->b ∉ lG (ev::out)->s.heap.get? b=some o->h'.get? b=some o) ->
   (∀b o,b≠a->s.heap.get? b=some o->∃sl,h'.get? b=some { o with slots:=sl })->Q () { s with heap:=h' }):
  j6 M A (do let x <- frameOf ev;let pl <- entryPlaceOf L hn;let b <- vo hdv x .none (U9 L) .none pl;iG (.ref a) 1 b) (fun _ s'=>j6 M A (vf (.ref a) none) Q E s') E s:=by
 have na:a ∉ (ev::out).filterMap (·.frame):=fun hm=>by
  obtain ⟨_,o,ho,hnf⟩:=ff.mem hm
  rw[ga] at ho
  cases ho
  exact hnf us gf
 refine b7 (wpAny_frameOf_fun fr ff fl fun g1 hs=>?_)
 refine b7 (wpAny_entryPlaceOf fun pl hpl=>?_)
 unfold vo newFields
 refine b7 (B6 ?_ (hpl.sizeOk5 _ _ _ _ _))
 have ga1:g1.get? a=some ob:=(hs.2.1 a na).trans ga
 generalize hnew:({ cls:=.type "traceback",dict:=none,data:=.fields ([hdv,.ref L,.none,U9 L,.none]++(if pl.isEmpty then u5 6 B5 else pl)).toArray }:Obj)=ot
 have ga2:(g1.push ot).get? a=some ob:=d7 (h:=g1) ot ga1
 have gt2:(g1.push ot).get? g1.objs.size=some ot:=j9 g1 (by rw[<- hnew];rfl)
 have otd:∃ts,ot.data=.fields ts/\3<ts.size:=by
  refine ⟨_,by rw[<- hnew],?_⟩
  simp only[q9,w9,m9,O0]
  lia
 obtain ⟨ts,otd,tsz⟩:=otd
 refine X9 ga2 gf sz ?_
 have JM:g1.objs.size≠a:=B9 (i5 ga1)
 have d3:=Q3 gf (·.setIfInBounds 1 (n5 g1.objs.size))
 have ga3:=L7 (R7 (·.setIfInBounds 1 (n5 g1.objs.size))) ga2 (aY d3)
 have gt3:((g1.push ot).update a (R7 (·.setIfInBounds 1 (n5 g1.objs.size)))).get? g1.objs.size=some ot :=
  (E8 (g1.push ot) (R7 (·.setIfInBounds 1 (n5 g1.objs.size))) (F6 JM)).trans gt2
 unfold vf
 refine b7 (C3 ga3 d3 (x:=.ref g1.objs.size) (by simp[sz]) ?_)
 rw[if_pos (show (n5 g1.objs.size != B5)=true from by simp)]
 refine X9 gt3 otd tsz ?_
 have kp:∀b o,b≠a->g1.get? b=some o ->
   (((g1.push ot).update a (R7 (·.setIfInBounds 1 (n5 g1.objs.size)))).update g1.objs.size (R7 (·.setIfInBounds 3 ((none:Option Addr).elim B5 fun f=>U9 f)))).get? b=some o:=by
  intro b o hb e
  have hbT:g1.objs.size≠b:=B9 (i5 e)
  rw[E8 _ _ hbT,E8 _ _ (F6 hb)]
  exact d7 _ e
 refine k _ g1.objs.size ⟨_,_,_,_,(E8 _ _ JM).trans ga3,?_,?_,d3,by simp[sz],JM,L7 _ gt3 (aY (Q3 otd _)),Q3 otd _,?_⟩ (by rw[hs.1];exact i6 _) (fun b o hb hf e=>?_) (fun b o hb e=>?_)
 ·rw[oW]
  exact gc
 ·rw[qL]
  exact gd
 ·rw[jU tsz]
  rfl
 ·exact kp b o hb ((hs.2.1 b hf).trans e)
 ·obtain ⟨sl,e1⟩:=hs.2.2 b o e
  exact ⟨sl,kp b _ hb e1⟩
variable {hd:Option Addr}
theorem DF {bs:Heap}
  (fr:A.frames=some (ev::out)) (ff:s.heap.FunFrames bs (ev::out)) (fl:ev.frame=some L) (x:Hd s.heap a C hd)
  (k:∀h' T,Hd h' a C (some T)->s.heap.objs.size<=T->(∀b o,b≠a->hd≠some b->b ∉ lG (ev::out)->s.heap.get? b=some o->h'.get? b=some o) ->
   (∀b o,b≠a->hd≠some b->s.heap.get? b=some o->∃sl,h'.get? b=some { o with slots:=sl })->Q () { s with heap:=h' }):
  j6 M A (EC (.ref a) ev) (fun _ s'=>j6 M A (vf (.ref a) none) Q E s') E s:=by
 unfold EC
 simp only[fl]
 cases hd with
 | none =>
  obtain ⟨oe,vs,e1,e2,e3,e4,e5⟩:=x
  refine b7 (C3 e1 e4 e5 ?_)
  rw[if_neg (by decide)]
  exact zK fr ff fl e1 e2 e3 e4 (Array.getElem?_eq_some_iff.mp e5).1 fun h' T q1 q2 q3 q4=>k h' T q1 q2 (fun b o hb _=>q3 b o hb) (fun b o hb _=>q4 b o hb)
 | some T0 =>
  obtain ⟨oe,vs,oT,ts,e1,e2,e3,e4,e5,ne,t1,t2,t3⟩:=x
  refine b7 (C3 e1 e4 e5 ?_)
  rw[if_pos (show (n5 T0 != B5)=true from by simp)]
  refine b7 (C3 t1 t2 t3 ?_)
  rw[if_neg (show ¬ ((B5 == U9 L)=true) from by simp[U9])]
  refine b7 (X9 t1 t2 (Array.getElem?_eq_some_iff.mp t3).1 ?_)
  have ot:∀b,b≠T0->(s.heap.update T0 (R7 (·.setIfInBounds 3 B5))).get? b=s.heap.get? b:=fun b hb=>E8 _ _ (F6 hb)
  have nr:∀b o,s.heap.get? b=some o->(∀vs,o.data≠.fields vs)->b≠T0:=fun b o hb hnf q=>by
   rw[q,t1] at hb
   cases hb
   exact hnf ts t2
  refine zK fr (ff.of_keeps fun b o hb hnf=>⟨o,(ot b (nr b o hb hnf)).trans hb,rfl⟩) fl ((ot a (F6 ne)).trans e1) e2 e3 e4 (Array.getElem?_eq_some_iff.mp e5).1 fun h' T q1 q2 q3 q4=>?_
  have q2':s.heap.objs.size<=T:=by
   have z:=Heap.size_after_update s.heap T0 (R7 (·.setIfInBounds 3 B5))
   rw[<- z];exact q2
  exact k h' T q1 q2' (fun b o hb hx hf e=>q3 b o hb hf ((ot b fun z=>hx (by rw[z])).trans e)) (fun b o hb hx e=>q4 b o hb ((ot b fun z=>hx (by rw[z])).trans e))
theorem FR {bs:Heap}
  (fr:A.frames=some (ev::out)) (ff:s.heap.FunFrames bs (ev::out)) (fl:ev.frame=some L) (x:Hd s.heap a C hd)
  (k:∀h' T,Hd h' a C (some T)->s.heap.objs.size<=T->(∀b o,b≠a->hd≠some b->b ∉ lG (ev::out)->s.heap.get? b=some o->h'.get? b=some o) ->
   (∀b o,b≠a->hd≠some b->s.heap.get? b=some o->∃sl,h'.get? b=some { o with slots:=sl })->Q () { s with heap:=h' }):
  j6 M A (EV ev (.ref a)) Q E s:=by
 unfold EV
 exact b7 (DF fr ff fl x k)
theorem M9.there (x:M9 P w H h a o):∃u,h.get? a=some u:=by
 cases o with
 | lst xs=>obtain ⟨_,_,_,_,e⟩:=x;exact ⟨_,e⟩
 | tup xs=>obtain ⟨_,_,_,ob,e,_⟩:=x;exact ⟨_,e⟩
 | dK kvs=>obtain ⟨_,_,_,_,ob,_,_,e,_⟩:=x;exact ⟨_,e⟩
 | dT kvs=>obtain ⟨_,_,_,_,ob,_,_,e,_⟩:=x;exact ⟨_,e⟩
 | set S n=>obtain ⟨ob,_,_,_,e,_⟩:=x;exact ⟨_,e⟩
 | ins C dx fs=>obtain ⟨_,_,_,e,_⟩:=x;exact ⟨_,e⟩
 | own y=>exact x
 | xd fs=>obtain ⟨_,⟨_,_,_,e,_⟩,_⟩:=x;exact ⟨_,e⟩
 | rng lo hi=>obtain ⟨_,_,_,e⟩:=x;exact ⟨_,e⟩
 | frz ob u=>obtain ⟨e,_⟩:=x;exact ⟨_,e⟩
 | tbl ps=>exact ⟨_,(show h.get? a=some _ from x)⟩
 | met f y=>exact ⟨_,(show h.get? a=some _ from x)⟩
 | ext φ=>obtain ⟨_,e,_⟩:=x;exact e
theorem cG.none_of (x:cG P w H h) (e:h.get? a=none):H a=none:=by
 cases z:H a with
 | none=>rfl
 | some u =>
  obtain ⟨o,eo⟩:=(x a u z).there
  rw[e] at eo
  cases eo
structure ER (P:j7) (w:u9) (fs:List Addr) (H:Hp) (s:d9) (a C:Addr) (H':Hp) (s':d9):Prop where
 os:s'.os=s.os
 bare:ju s'.gens
 un:Un fs [] H H' s.heap s'.heap
 hok:cG P w H' s'.heap
 exc:∃T,Hd s'.heap a C (some T)/\s.heap.get? a=none/\s.heap.get? T=none/\H' a=none/\H' T=none
noncomputable def lN (P:j7) (w:u9):Ad:=fun outer H s E e s'=>∃a C H',e=.ref a/\ER P w (lG outer) H s a C H' s'/\E (.ref C) none H'
variable {h':Heap}
theorem HI {fs:List Addr}(ha:H a=none) (ht:∀T,hd=some T->H T=none) (hf:∀b∈fs,H b=none)
  (k1:∀b o,b≠a->hd≠some b->b ∉ fs->h.get? b=some o->h'.get? b=some o) (ok:cG P w H h):cG P w H h':=fun b o e=>by
 have nt:∀c u,H c=some u->c≠a/\hd≠some c/\c ∉ fs:=fun c u q=>by
  refine ⟨fun z=>?_,fun z=>?_,fun z=>?_⟩
  ·rw[z,ha] at q;cases q
  ·rw[ht c z] at q;cases q
  ·rw[hf c z] at q;cases q
 refine (ok b o e).stay (fun c u hc q=>?_) (fun _ q=>q) fun _ _ q=>q
 rcases hc with z|z
 ·subst z
  obtain ⟨n1,n2,n3⟩:=nt _ _ e
  exact k1 _ u n1 n2 n3 q
 ·obtain ⟨n1,n2,n3⟩:=nt _ _ z
  exact k1 _ u n1 n2 n3 q
variable {pins:List (Addr × Obj)}{σ:St}
theorem uE (I:C8 X pins σ H s) (hs:X.stack=X.env::X.outer) (hf:X.env.frame=some X.env.locals) (hex:X.ex=[])
  (x:Hd s.heap a C hd) (na:X.s₀.heap.get? a=none) (nT:∀T,hd=some T->X.s₀.heap.get? T=none) (ha:H a=none) (ht:∀T,hd=some T->H T=none)
  (q:∀s',ER X.prog X.w X.fs X.H₀ X.s₀ a C H s'->Q () s'):j6 M X.A (EV X.env (.ref a)) Q E s:=by
 have fr:X.A.frames=some (X.env::X.outer):=by rw[I.ok.frames,hs]
 have ff:s.heap.FunFrames X.base (X.env::X.outer):=by rw[<- hs];exact I.stack
 have hfs:lG (X.env::X.outer)=X.env.locals::X.fs:=by
  unfold lG
  rw[fH,hf]
  rfl
 refine FR fr ff hf x fun h' T k0 k00 k1 k2=>q _ ?_
 have exN:∀b,b ∉ X.ex:=fun b z=>by rw[hex] at z;cases z
 have neA:∀b o,X.s₀.heap.get? b=some o->b≠a/\hd≠some b/\b≠X.env.locals:=fun b o e=>by
  refine ⟨fun z=>?_,fun z=>?_,n0 (A3 (i5 e) I.ok.above)⟩
  ·rw[z,na] at e;cases e
  ·rw[nT b z] at e;cases e
 refine ⟨I.os,I.bare,⟨fun b o e n hb _=>?_,fun b o e n hb _=>?_,fun b o e n _=>I.base.free b o e n (exN b),fun b o e _=>?_,I.base.tups,I.base.frzs,I.base.tbls⟩,HI (fs:=lG (X.env::X.outer)) ha ht (fun b hb=>I.stkFree b (by rw[hs];exact hb)) k1 I.hok,T,k0,na,?_,ha,I.hok.fresh k00⟩
 ·obtain ⟨n1,n2,n3⟩:=neA b o e
  exact k1 b o n1 n2 (by rw[hfs];intro z;rcases List.mem_cons.mp z with z|z;exact n3 z;exact hb z) (I.base.keep b o e n hb (exN b))
 ·obtain ⟨n1,n2,n3⟩:=neA b o e
  obtain ⟨sl,e1⟩:=I.base.slot b o e n hb (exN b)
  obtain ⟨sl',e2⟩:=k2 b _ n1 n2 e1
  exact ⟨sl',e2⟩
 ·obtain ⟨n1,n2,n3⟩:=neA b o e
  obtain ⟨o',e1⟩:=I.base.there b o e (exN b)
  obtain ⟨sl',e2⟩:=k2 b _ n1 n2 e1
  exact ⟨_,e2⟩
 ·exact kM (j0 I.sz k00)
variable {b:Addr}
theorem eS {fs:List Addr}(u:Un fs [] H H' h h') (e:h'.get? b=none):h.get? b=none:=by
 cases q:h.get? b with
 | none=>rfl
 | some o =>
  obtain ⟨o',e'⟩:=u.there b o q (by simp)
  rw[e'] at e
  cases e
section
variable {P:j7}{w:u9}{K:m6}{mg:Str->Option b9}{base:Heap}{N:List Str}{qual:Str}{scope:T5}{f:Addr}{cd:b9}{A:A8}{outer:List Env}{s₀:d9}{H₀:Hp}{E:XK}
theorem jB:kG (lN P w) (gy (lN P w) P w K mg base N qual scope f cd A outer s₀ H₀ E) E:=by
 intro pins σ H s e s' I h
 obtain ⟨a,C,H',rfl,F,hE⟩:=h
 obtain ⟨T,x,n1,n2,n3,n4⟩:=F.exc
 have I':=I.call' (ch:=[]) F.os F.un F.hok F.bare (fun b z=>absurd z (by simp))
 exact uE I' rfl rfl rfl x (eS I.base n1) (fun T' z=>by cases z;exact eS I.base n2) n3 (fun T' z=>by cases z;exact n4) fun s'' F'=>⟨a,C,H',rfl,F',hE⟩
noncomputable def vE:List b9:=[.type "ValueError",.type "Exception",.type "BaseException",.type "object"]
noncomputable def XC (K:m6) (C:Addr):Prop:=Jy K C vE "ValueError.__new__"=true
theorem Ga {K:m6}{h:Heap}{C:Addr} (X:K.In h) (q:XC K C):
  ∃bm N nm q bs hdct sn sub ab col dd k0 k1 k2 k3 k5 mN,h.get? C=some (excClassObj nm q C N bs bm hdct sn sub ab col dd k0 k1 k2 k3 k5 "ValueError.__new__")/\h.Ns N mN/\mN "__init__"=none/\OwnTail h vE bm:=by
 unfold XC Jy at q
 split at q
 case h_2=>cases q
 case h_1 dd cd sl ho =>
  split at q
  case h_2=>cases q
  case h_1 C' bm k0 k1 k2 k3 n k5 hm hs =>
   simp only[y6,beq_iff_eq,Y6] at q
   obtain ⟨⟨⟨⟨⟨z1,z2⟩,hdel⟩,ht⟩,hok⟩,hni⟩:=q
   subst z1
   subst z2
   obtain ⟨nm,bs,mro,ns,qn,hd,sn,sub,ab,col,del⟩:=cd
   dsimp only at hm hdel hok hni
   subst hm hdel
   have hsl:sl=#[k0,k1,k2,k3,some (.builtin "ValueError.__new__"),k5]:=by
    obtain ⟨l⟩:=sl
    simp only at hs
    rw[hs]
   subst hsl
   exact ⟨bm,ns,nm,qn,bs,hd,sn,sub,ab,col,dd,k0,k1,k2,k3,k5,_,X _ _ ho,.of_isNs (W.isNs_of_in X hok),W.nsMap_none_of_in X hok hni,W.tail_of_in X ht⟩
noncomputable def HR (C:Addr) (E:XK) (t:TA):TS:=fun _ σ H=>t σ H fun _ H1=>E (.ref C) none H1
theorem CW {x:Str}{C:Addr}{e:Expr}{es:List Expr}{t:TA}{np cpos pos:Pos} (hg:Gl (gy (lN P w) P w K mg base N qual scope f cd A outer s₀ H₀ E) x) (hm:mg x=some (.ref C)) (hc:XC K C)
  (ha:PA (gy (lN P w) P w K mg base N qual scope f cd A outer s₀ H₀ E) (e::es) t) (hl:(e::es).length<=1:=by decide)
  (hdb:(x == ("__debug__":Str))=false:=by decide)
  (he:A4 (e::es) (ae qual scope s₀.heap.objs.size f cd)=(false,eval e (ae qual scope s₀.heap.objs.size f cd))::A4 es (ae qual scope s₀.heap.objs.size f cd):=by rfl)
  (hpl:(aW cpos (A4 es (ae qual scope s₀.heap.objs.size f cd))).any (·.1)=false:=by rfl)
  (hvl:∀σ H Q,t σ H Q->t σ H fun vs H1=>vs.length<=i0/\Q vs H1):
  PS (gy (lN P w) P w K mg base N qual scope f cd A outer s₀ H₀ E) (.Raise (some (.Call (.Name x np) (e::es) [] cpos)) none pos) (HR C E t):=by
 intro pins s σ H D I h
 obtain ⟨bm,NN,nm,q,bs,hdct,sn,sub,ab,col,dd,k0,k1,k2,k3,k5,mN,hC,hN,hni,T⟩:=Ga I.ok.mod.kin hc
 have FB:=PySem.F.excBase_ValueError
 refine wpAny_Raise_call_subT (C:=C) (nm:=nm) (q:=q) (N:=NN) (bs:=bs) (bm:=bm) (hdct:=hdct) (sn:=sn) (sub:=sub) (ab:=ab) (col:=col) (dd:=dd) (k0:=k0) (k1:=k1) (k2:=k2) (k3:=k3) (k5:=k5)
  FB (mN:=mN) (T.hasType FB.hasBase) (I.ok.hd rfl) ?_ hni (lA I hg hm ⟨rfl,?_⟩ hdb)
 ·show (aW cpos (A4 (e::es) (ae qual scope s₀.heap.objs.size f cd))).any (·.1)=false
  rw[he]
  show (false || (aW cpos (A4 es (ae qual scope s₀.heap.objs.size f cd))).any (·.1))=false
  rw[hpl]
  rfl
 ·have hq:=ha cpos pins s σ H _ I (hvl _ _ _ h)
  show j6 _ _ (evalArgs (.ref C) true (aW cpos (A4 (e::es) (ae qual scope s₀.heap.objs.size f cd))) []) _ _ s
  have hq':j6 (r6 P w) (A.deeper (ae qual scope s₀.heap.objs.size f cd)) (spliced (aW cpos (A4 (e::es) (ae qual scope s₀.heap.objs.size f cd)))) _ _ s:=hq
  rw[he] at hq' ⊢
  refine kg (F5 hq' (fun us s2 ⟨vs,H2,I2,r,lv,hE⟩=>⟨rfl,?_,I2.bk _ _ hC,hN.keeps I2.bk,T.keeps I2.bk,fun h' a mk=>?_⟩) fun _ _ y=>y)
  ·show us.length<=i0
   rw[<- r.length]
   exact lv
  ·obtain ⟨t,ea,tn,et⟩:=mk.there
   have ha:H2 a=none:=I2.hok.none_of mk.new
   have I3:C8 (gy (lN P w) P w K mg base N qual scope f cd A outer s₀ H₀ E) pins σ H2 { s2 with heap:=h' }:=I2.kept mk.keeps
   exact uE (hd:=none) I3 rfl rfl rfl ⟨_,_,ea,rfl,rfl,rfl,rfl⟩ (eS I2.base mk.new) (fun T' z=>by cases z) ha (fun T' z=>by cases z) fun s'' F'=>⟨a,C,H2,rfl,F',hE⟩
end
noncomputable abbrev KN (o:Obj):HO:=.frz o (.ext fun _=>True)
theorem sC {o:Obj} (e:h.get? a=some o):M9 P w H h a (KN o):=⟨e,trivial,⟨o,e⟩,fun _ _ _ _=>trivial⟩
theorem cG.kn {o:Obj} (x:cG P w H h) (e:H a=some (KN o)):h.get? a=some o:=(x a _ e).1
theorem cG.know {o:Obj} (x:cG P w H h) (n:H a=none) (e:h.get? a=some o):cG P w (n8 H a (KN o)) h:=fun b u q=>by
 by_cases hb:b=a
 ·subst hb
  rw[f9] at q
  cases q
  exact sC e
 ·rw[A1 hb] at q
  exact (x b u q).stay (fun _ _ _ z=>z) (fun c z=>by rw[A1 (v5 z n)];exact z) fun c xs z=>by rw[A1 (v5 z n)];exact z
theorem Un.know {fs ex:List Addr}(u:Un fs ex H H' h h') (n:H' a=none) (na:h.get? a=none):Un fs ex H (n8 H' a o) h h' where
 keep:=u.keep
 slot:=u.slot
 free:=fun b ob q m hx=>by
  rw[A1 (fun z=>by rw[z,na] at q;cases q)]
  exact u.free b ob q m hx
 there:=u.there
 tups:=fun b xs q=>by
  rw[A1 (v5 (u.tups b xs q) n)]
  exact u.tups b xs q
 frzs:=fun b ob xs q=>by
  rw[A1 (v5 (u.frzs b ob xs q) n)]
  exact u.frzs b ob xs q
 tbls:=fun b ps q=>by
  obtain ⟨m,e⟩:=u.tbls b ps q
  exact ⟨m,by rw[A1 (v5 e n)];exact e⟩
section
variable {P:j7}{w:u9}{fs:List Addr}{H H':Hp}{s s':d9}{a C:Addr}{M:lQ}{A:A8}{E:b9->d9->Prop}{Q:Unit->d9->Prop}
theorem ER.noteW {bs:Heap}{ev:Env}{out:List Env}{L:Addr} (F:ER P w (lG (ev::out)) H s a C H' s') (fr:A.frames=some (ev::out)) (ff:s'.heap.FunFrames bs (ev::out)) (fl:ev.frame=some L) (hfs:∀b∈lG (ev::out),H' b=none)
  (q:∀s'',ER P w (lG (ev::out)) H s a C H' s''->Q () s''):j6 M A (EC (.ref a) ev) (fun _ s2=>j6 M A (vf (.ref a) none) Q E s2) E s':=by
 obtain ⟨T0,x,n1,n2,n3,n4⟩:=F.exc
 refine DF fr ff fl x fun h' T k0 k00 k1 k2=>q _ ?_
 have neA:∀b o,s.heap.get? b=some o->b≠a/\some T0≠some b:=fun b o e=>by
  refine ⟨fun z=>?_,fun z=>?_⟩
  ·rw[z,n1] at e;cases e
  ·have z':=C1 z
   rw[<- z',n2] at e;cases e
 refine ⟨F.os,F.bare,⟨fun b o e n hb hx=>?_,fun b o e n hb hx=>?_,F.un.free,fun b o e hx=>?_,F.un.tups,F.un.frzs,F.un.tbls⟩,HI (hd:=some T0) n3 (fun T' z=>by cases z;exact n4) hfs k1 F.hok,T,k0,n1,?_,n3,F.hok.fresh k00⟩
 ·obtain ⟨m1,m2⟩:=neA b o e
  exact k1 b o m1 m2 hb (F.un.keep b o e n hb hx)
 ·obtain ⟨m1,m2⟩:=neA b o e
  obtain ⟨sl,e1⟩:=F.un.slot b o e n hb hx
  obtain ⟨sl',e2⟩:=k2 b _ m1 m2 e1
  exact ⟨sl',e2⟩
 ·obtain ⟨m1,m2⟩:=neA b o e
  obtain ⟨o',e1⟩:=F.un.there b o e hx
  obtain ⟨sl',e2⟩:=k2 b _ m1 m2 e1
  exact ⟨_,e2⟩
 ·exact eS F.un (kM k00)
theorem ER.landW (F:ER P w fs H s a C H' s') (hfs:∀b∈fs,H' b=none) (q:∀s'',ER P w fs H s a C H' s''->Q () s''):j6 M A (vf (.ref a) none) Q E s':=by
 obtain ⟨T,⟨oe,vs,oT,ts,e1,e2,e3,e4,e5,ne,t1,t2,t3⟩,n1,n2,n3,n4⟩:=F.exc
 refine wpAny_setFlight_none e1 e4 e5 t1 t2 (Array.getElem?_eq_some_iff.mp t3).1 (q _ ?_)
 have ot:∀b,b≠T->(s'.heap.update T (R7 (·.setIfInBounds 3 B5))).get? b=s'.heap.get? b:=fun b hb=>E8 _ _ (F6 hb)
 have nT:∀b o,s.heap.get? b=some o->b≠T:=fun b o e z=>by rw[z,n2] at e;cases e
 refine ⟨F.os,F.bare,⟨fun b o e n hb hx=>(ot b (nT b o e)).trans (F.un.keep b o e n hb hx),fun b o e n hb hx=>?_,F.un.free,fun b o e hx=>?_,F.un.tups,F.un.frzs,F.un.tbls⟩,?_,T,?_,n1,n2,n3,n4⟩
 ·obtain ⟨sl,z⟩:=F.un.slot b o e n hb hx
  exact ⟨sl,(ot b (nT b o e)).trans z⟩
 ·obtain ⟨o',z⟩:=F.un.there b o e hx
  exact ⟨o',(ot b (nT b o e)).trans z⟩
 ·exact HI (fs:=fs) (hd:=some T) n3 (fun T' z=>by cases z;exact n4) hfs (fun b o _ hb _ e=>(ot b fun z=>hb (by rw[z])).trans e) F.hok
 ·exact ⟨oe,vs,_,_,(ot a (F6 ne)).trans e1,e2,e3,e4,e5,ne,L7 _ t1 (aY (Q3 t2 _)),Q3 t2 _,by
   rw[jU (Array.getElem?_eq_some_iff.mp t3).1]⟩
end
variable {oe:Obj}
theorem Bc {D:Addr}{Q:Bool->d9->Prop} (X:K.In s.heap) (he:s.heap.get? a=some oe) (hc:oe.cls=.ref C)
  (h1:xx K (.ref C) (.ref D)=some true) (h2:mZ K (.ref D) (.type "BaseException")=some true) (q:Q true s):j6 M A (excMatches (.ref a) (.ref D)) Q E s:=by
 obtain ⟨l1,l2,l3⟩:=W.kit_cls (M:=M) X h1
 have l4:=W.looks_subIn (M:=M) X h2
 have l5:Jz M s.heap (typeOf (.ref a)) (.ref C):=hc ▸ (W.Looks.ld he).andThen .now
 have l6:Jz M s.heap (isInstance (.ref D) (.type "tuple")) false:=l1.andThen (W.Looks.of_pure tc_notTuple)
 have l7:Jz M s.heap (isExcClass (.ref D)) true:=l2.andThen (by simpa using l4)
 unfold excMatches
 refine b7 (l6.here ?_)
 simp only[F9,if_false]
 refine b7 (d6 ?_)
 simp only[fB,fX]
 refine b7 (b7 (b7 (l7.here ?_)))
 simp only[iy,F9,if_false]
 refine d6 (d6 (b7 (l5.here (b7 (b7 (b7 (l3.here ?_)))))))
 simp only[if_true]
 exact d6 (d6 (d6 q))
noncomputable abbrev Cx.marked (X:Cx) (v:b9):Cx:={ X with A:=X.A.mark (some v),calm:=false,xe:=fun _ _=>False }
theorem C8.marked {X:Cx}{pins:List (Addr × Obj)}{σ:St}{H:Hp}{s:d9} (I:C8 X pins σ H s) (v:b9):C8 (X.marked v) pins σ H s :=
 ⟨⟨I.ok.mod,I.ok.kind,I.ok.glob,I.ok.blt,I.ok.above,I.ok.inj,I.ok.has,I.ok.cab,(fun z=>absurd z (by simp)),I.ok.frames,I.ok.stk,I.ok.exf,I.ok.bs,I.ok.bsz,I.ok.noex,I.ok.exfs,I.ok.funs,I.ok.frf⟩,
  I.os,I.bare,I.base,I.loc,I.cell,I.free,I.freeC,I.pin,I.hok,I.len⟩
theorem C8.unmarked {v:b9} (ok:X.Ok) (I:C8 (X.marked v) pins σ H s):C8 X pins σ H s :=
 ⟨ok,I.os,I.bare,I.base,I.loc,I.cell,I.free,I.freeC,I.pin,I.hok,I.len⟩
theorem Au {i:Nat}{n:Str}{pos:Pos}(I:C8 X pins σ H s) (hN:X.N.Nodup) (hi:X.N[i]?=some n) (hl:X.env.scope.names.lookup n=some .local)
  (q:∀s',C8 X pins (σ.set i none) H s'->Q () s'):j6 M A (do dY X.env n .none;GX X.env n pos) Q E s:=by
 refine b7 (dW (cq I hN hi (.inl hl) (v:=.non) rfl (fun s1 I1=>?_) (.inr hl)))
 unfold GX
 refine qV ?_
 obtain ⟨m,hn,hlk⟩:=id I1.loc
 have hcls:(X.env.scope.kind == .class || (X.env.scope.kind == .module&&X.env.locals != X.env.globals))=false:=by rw[I.ok.kind];rfl
 have hiσ:i<σ.length:=by rw[I.len];exact (List.getElem?_eq_some_iff.mp hi).1
 obtain ⟨u0,_,lk0⟩:=hlk i n .non hi (av hiσ) (.inl hl)
 have hv:m n=some u0:=by
  rcases lk0 with ⟨_,z⟩|⟨z,_⟩
  ·exact z
  ·have z':X.env.scope.names.lookup n=some .cell ∨ X.env.scope.names.lookup n=some .free:=z
   rw[hl] at z'
   rcases z' with z'|z' <;> cases z'
 have cne:=I1.cne
 obtain ⟨oL,_,_,hoL,_⟩:=id hn
 refine wpAny_unbindName_local (show X.env.kindOf n=some .local from hl) hn hv hcls fun h' u hn' hs=>q _ ?_
 have neL:∀b o,X.s₀.heap.get? b=some o->b≠X.env.locals:=fun b o e=>n0 (A3 (i5 e) I.ok.above)
 refine ⟨I.ok,I1.os,I1.bare,⟨fun b o e n hb hx=>(hs.2 b (neL b o e)).trans (I1.base.keep b o e n hb hx),fun b o e n hb hx=>?_,I1.base.free,fun b o e hx=>?_,I1.base.tups,I1.base.frzs,I1.base.tbls⟩,⟨_,hn',fun j y v' e1 e2 e3=>?_⟩,fun y c e=>?_,I1.free,I1.freeC,fun p hp=>?_,fun b ob e=>?_,by simpa using I.len⟩
 ·obtain ⟨sl,z⟩:=I1.base.slot b o e n hb hx
  exact ⟨sl,(hs.2 b (neL b o e)).trans z⟩
 ·obtain ⟨o',z⟩:=I1.base.there b o e hx
  exact ⟨o',(hs.2 b (neL b o e)).trans z⟩
 ·by_cases hj:j=i
  ·subst hj
   rw[av hiσ] at e2
   cases e2
  ·rw[N8 (F6 hj)] at e2
   have e2':(σ.set i (some V.non))[j]?=some (some v'):=by rw[N8 (F6 hj)];exact e2
   obtain ⟨u',r',z⟩:=hlk j y v' e1 e2' e3
   refine ⟨u',r',?_⟩
   rcases z with ⟨k,e⟩|⟨k,c,e,z⟩
   ·refine .inl ⟨k,?_⟩
    have ny:y≠n:=fun e=>hj (qu hN e1 (e ▸ hi))
    simp[ny,e]
   ·exact .inr ⟨k,c,e,z.sameBut hs (cne y c e)⟩
 ·obtain ⟨w',z⟩:=I1.cell y c e
  exact ⟨w',z.sameBut hs (cne y c e)⟩
 ·obtain ⟨e,n,ne,nf,d⟩:=I1.pin p hp
  exact ⟨(hs.2 p.1 ne).trans e,n,ne,nf,d⟩
 ·refine (I1.hok b ob e).stay (fun c w' hc z=>(hs.2 c ?_).trans z) (fun _ z=>z) fun _ _ z=>z
  rintro rfl
  have fr:=I1.free
  rcases hc with rfl|hc
  ·rw[fr] at e;cases e
  ·rw[fr] at hc;cases hc
noncomputable def Ju (X:Cx) (k:Nat) (fa:Addr) (sp:Sp) (H:Hp):Prop :=
 ∃fo fd,H fa=some (KN fo)/\fo.data=.func fd/\Aj fd ⟨[],[]⟩=pure []/\O5 X.prog X.w X.K X.mg X.base (lN X.prog X.w) k fa fd [] sp
noncomputable def qS (oe:Obj) (C:Addr):Prop:=oe.cls=.ref C/\oe.dict=none/\∃vs,oe.data=.fields vs
noncomputable def tTry (X:Cx) (k iC iE iR:Nat) (B:Addr):TS:=fun D σ H=>∃fa sp,σ[iC]?=some (some (.ref fa))/\Ju X k fa sp H /\
 sp [] H (fun _ H1=>D.nx σ H1) (fun c _ H1=>∃C,c=.ref C/\xx X.K (.ref C) (.ref B)=some true/\∀a oe,qS oe C->H1 a=none->D.nx ((σ.set iR (some (.ref a))).set iE none) (n8 H1 a (KN oe)))
theorem Fx {iC iE iR:Nat}{xc xT n xr:Str}{B:Addr}{p1 p2 p3 p4 p5 p6 p7 p8 p9:Pos} (hs:X.stack=X.env::X.outer) (hfl:X.env.frame=some X.env.locals) (hr:cK k X.A) (hN:X.N.Nodup)
  (hC:X.N[iC]?=some xc) (hCv:Lv X.env.scope xc) (hE:X.N[iE]?=some n) (hEl:X.env.scope.names.lookup n=some .local) (hR:X.N[iR]?=some xr) (hRl:X.env.scope.names.lookup xr=some .local) (hne:iE≠iR)
  (hg:Gl X xT) (hm:X.mg xT=some (.ref B)) (hB:mZ X.K (.ref B) (.type "BaseException")=some true)
  (d1:(xc == ("__debug__":Str))=false:=by decide) (d2:(xc == ("__classdict__":Str))=false:=by decide) (d3:(xT == ("__debug__":Str))=false:=by decide) (d4:(n == ("__debug__":Str))=false:=by decide) (d5:(n == ("__classdict__":Str))=false:=by decide)
  (w1:om (.Call (.Name xc p1) [] [] p2) none p3.line X.env=pure false:=by rfl) (w2:om (.Name n p6) (some (.Name xr p5)) p7.line X.env=pure false:=by rfl)
  (w3:qX [.Name xr p5] (.Name n p6) X.env=pure none:=by rfl):
  PS X (.Try [.Expr (.Call (.Name xc p1) [] [] p2) p3] [.ExceptHandler (some (.Name xT p4)) (some n) [.Assign [.Name xr p5] (.Name n p6) p7] p8] [] [] p9) (tTry X k iC iE iR B):=by
 intro pins s σ H D I h
 obtain ⟨fa,sp,e0,⟨fo,fd,kn,hfd,bnd,F⟩,hsp⟩:=h
 refine wpAny_Try_except (vd (wpAny_Expr_any (dq ?_) I.quiet w1))
 have hv:=ya (X:=X.nox) (i:=iC) (x:=xc) (pos:=p1) hC hCv d1 d2 pins s σ H (fun v H1=>v=.ref fa/\H1=H) (I.wish _) ⟨_,e0,rfl,rfl⟩
 refine F5 hv (fun u s1 ⟨v,H1,I1,r,ev,eH⟩=>?_) fun _ _ z=>F7 z
 subst ev
 subst eH
 obtain rfl:u=n5 fa:=r
 have I2:C8 X pins σ H1 s1:=I1.unwish
 have hfa:W.FnAt fa s1.heap:=by
  have z:=I2.hok.kn kn
  obtain ⟨c,d,dt,sl⟩:=fo
  dsimp only at hfd
  subst hfd
  exact ⟨c,d,fd,sl,z⟩
 refine W.callWith_F0 hfa (rn (gJ (F.run X.A X.stack s1 H1 ⟨[],[]⟩ [] [] _ _ hr I2.env0 (.of_eq bnd) .nil hsp) fun res s' hq=>?_))
 cases res with
 | ok fl =>
  cases fl with
  | ret u =>
   obtain ⟨v,H',I3,rv,q3⟩:=I2.after hq
   exact cZ (cZ ⟨σ,H',I3,q3⟩)
  | next=>exact F7 hq
  | brk=>exact F7 hq
  | cont=>exact F7 hq
 | error e =>
  obtain ⟨a,C,H',rfl,F1,C',ec,hk,hnx⟩:=hq
  cases ec
  have hfr:lG X.stack=lG (X.env::X.outer):=by rw[hs]
  have I3:C8 X pins σ H' s':=I2.call' (ch:=[]) F1.os F1.un F1.hok F1.bare (fun b z=>absurd z (by simp))
  have F1':ER X.prog X.w (lG (X.env::X.outer)) H1 s1 a C H' s':=by rw[<- hfr];exact F1
  have fr0:∀b∈lG (X.env::X.outer),H' b=none:=fun b hb=>I3.stkFree b (by rw[hfr];exact hb)
  refine F1'.noteW (bs:=X.base) (by rw[I.ok.frames,hs]) (by rw[<- hs];exact I3.stack) hfl fr0 fun s3 F3=>?_
  have inv:∀s4,ER X.prog X.w (lG (X.env::X.outer)) H1 s1 a C H' s4->C8 X pins σ H' s4:=fun s4 F4=>I2.call' (ch:=[]) F4.os (by rw[hfr];exact F4.un) F4.hok F4.bare (fun b z=>absurd z (by simp))
  refine wpAny_handleBy_cons (codeAny_handlers_test (lA (X:=X.marked (.ref a)) ((inv s3 F3).marked _) hg hm ?_ d3)) (by intro q;cases q)
  obtain ⟨T3,x3,n1,n2,n3,n4⟩:=F3.exc
  obtain ⟨oe3,vs3,e31,e32,e33,e34⟩:=x3.at
  refine Bc (inv s3 F3).kIn e31 e32 hk hB ?_
  show dc _ _ _ _ s3
  refine codeAny_handlers_suite_as (F3.landW fr0 fun s4 F4=>?_)
  obtain ⟨T4,x4,m1,m2,m3,m4⟩:=F4.exc
  obtain ⟨oe,vs,e41,e42,e43,e44⟩:=x4.at
  have I4:C8 X pins σ (n8 H' a (KN oe)) s4:=I2.call' (ch:=[]) F4.os (by rw[hfr];exact F4.un.know m3 m1) (F4.hok.know m3 e41) F4.bare (fun b z=>absurd z (by simp))
  refine cq (X:=X.marked (.ref a)) (I4.marked _) hN hE (.inl hEl) (v:=.ref a) rfl (fun s5 I5=>?_) (.inr hEl)
  have hst:rV (X.marked (.ref a)) [.Assign [.Name xr p5] (.Name n p6) p7] (Fs (U2 iE) (bC iR)):=t6 (F8 hN hR (.inl hRl) (ya hE (.inl hEl) d4 d5) w2 (.inr hRl))
  have hlen:iE<σ.length:=by rw[I.len];exact (List.getElem?_eq_some_iff.mp hE).1
  refine F5 (hst pins s5 _ _ { nx:=fun σ' H2=>σ'=(σ.set iE (some (.ref a))).set iR (some (.ref a))/\H2=n8 H' a (KN oe),rt:=fun _ _=>False } I5 ⟨.ref a,av hlen,rfl,rfl⟩) (fun f s6 q=>?_) fun _ _ z=>F7 z
  cases f with
  | ret v=>obtain ⟨_,_,_,_,_,z⟩:=q;exact F7 z
  | brk=>obtain ⟨_,_,_,z⟩:=q;exact F7 z
  | cont=>obtain ⟨_,_,_,z⟩:=q;exact F7 z
  | next =>
   obtain ⟨σ6,H6,I6,eσ,eH⟩:=q
   subst eσ
   subst eH
   refine Au (I6.unmarked I.ok) hN hE hEl fun s7 I7=>⟨_,_,I7,?_⟩
   have z:=hnx a oe ⟨e42,e43,vs,e44⟩ m3
   have hσ:((σ.set iE (some (V.ref a))).set iR (some (V.ref a))).set iE none=(σ.set iR (some (V.ref a))).set iE none:=by
    apply oo
    intro j
    simp only[List.getElem?_set,aI]
    by_cases z1:iE=j <;> by_cases z2:iR=j <;> simp[z1,z2]
   rw[hσ]
   exact z
structure XI (K:m6) (C:Addr):Prop where
 ga:X7 K (.ref C) "__getattribute__"=some (some (.builtin "BaseException.__getattribute__"))
 gt:X7 K (.ref C) "__getattr__"=some none
 sb:mZ K (.ref C) (.type "BaseException")=some true
 hc:(xb K C).isSome=true
 ha:X7 K (.ref C) "__class__"=some (some (.builtin "object.__class__"))
 hn:lT K (.builtin "object.__class__") "__get__"=some (some (.builtin "getset_descriptor.__get__"))
 tk:Bw K (.builtin "object.__class__")=some true
 hm:Jx K C (.type "object")=some true
variable {name:Str}
theorem uF {a g:b9} (hc:(xb K C).isSome=true) (ha:X7 K (.ref C) name=some (some a)) (hg:lT K a "__get__"=some (some g)) (ht:Bw K a=some true):
  JY K C none name=some (.bind g a):=by
 obtain ⟨cd,hc⟩:=Option.isSome_iff_exists.mp hc
 unfold JY
 rw[hc,EH,ha,EH]
 simp[hg,ht]
theorem AU {prog:j7}{g d:b9}(X:K.In s.heap) (I:Mp s.heap a oe C none)
  (hga:X7 K (.ref C) "__getattribute__"=some (some (.builtin "BaseException.__getattribute__"))) (hgt:X7 K (.ref C) "__getattr__"=some none) (hs:mZ K (.ref C) (.type "BaseException")=some true)
  (hf:JY K C none name=some (.bind g d)) {Q:Option b9->d9->Prop}
  (h:j6 (r6 prog w) A.in1 (call g [d,.ref a,.ref C]) (fun v s'=>j6 (r6 prog w) A (handedOut v) (fun v s''=>Q (some v) s'') (fun _ _=>False) s') (fun _ _=>False) { s with toks:=s.toks+1 }):
  j6 (r6 prog w) A (getAttr? (.ref a) name) Q E s:=by
 obtain ⟨hh,gg,dr,t,os⟩:=s
 have L0:=I.type (M:=r6 prog w)
 have L1:=Mn (M:=r6 prog w) X hga
 have L2:=Mn (M:=r6 prog w) X hgt
 have L3:=W.looks_find (M:=r6 prog w) X I hf
 have L4:Jz (r6 prog w) hh (isInstance (.ref a) (.type "BaseException")) true:=L0.andThen (W.looks_subIn X hs)
 have f3:=PySem.F.excAttr_ValueError.ga.bind (.ref a)
 unfold getAttr? getAttrBy? getAttrBy
 refine b7 (wpAny_mkText (b7 (Q2 (L8 (b7 (L0.at (b7 (L1.at ?_))))))))
 have hx2:(bT "BaseException.__getattribute__" == bT "object.__getattribute__")=false:=by decide +kernel
 have hx3:(Ml (n5 C)&&bT "BaseException.__getattribute__" == bT "object.__getattribute__")=false:=by rw[hx2];rfl
 show j6 _ _ (if (Ml (n5 C)&&bT "BaseException.__getattribute__" == bT "object.__getattribute__")=true then _ else getAttrByItsOwn _ _ _ _ _ _) _ _ _
 rw[hx3,if_neg (by decide)]
 unfold getAttrByItsOwn hookBefore
 simp only[Ml,if_true]
 refine b7 (L2.at (b7 (Q2 (L8 ?_))))
 unfold callGetattribute
 rw[if_neg (by decide)]
 unfold boundAndCalled
 refine b7 (nV f3 (rn ?_))
 refine codeAny_call_builtin PySem.F.excAttr_ValueError.ga.plain PySem.F.entry_bexc_ga ?_
 have hk:builtinKind "BaseException.__getattribute__"=some .slot:=by decide +kernel
 have hsplit:splitId "BaseException.__getattribute__"=some ("BaseException","__getattribute__"):=by decide +kernel
 have ha:=PySem.F.args_bexc_ga (.ref a) (.str name t)
 simp only[checkBuiltinCall,hk,hsplit]
 refine b7 (L4.at ?_)
 repeat (first|wp_step)
 refine wpAny_loadPart I.at_ (d6 ?_)
 rw[I.cls]
 refine b7 (L3.at ?_)
 show j6 _ _ (ki g d (.ref a) (.ref C)) _ _ _
 unfold ki
 dsimp only
 exact b7 (L8 (F5 h (fun v s' z=>d6 (F5 z (fun v s'' q=>d6 q) (fun _ _ z=>z.elim))) (fun _ _ z=>z.elim)))
theorem qS.inst (x:qS oe C) (e:h.get? a=some oe):Mp h a oe C none:=by
 obtain ⟨c,d,vs,hv⟩:=x
 refine ⟨e,c,?_,?_⟩
 ·obtain ⟨c0,d0,dt,sl⟩:=oe
  dsimp only at hv
  subst hv
  rfl
 ·rw[d]
  trivial
theorem DT (Z:XI K C) (x:qS oe C):W.KitX K (.ref a) (.ref C) (fun h=>h.get? a=some oe) where
 ty:=fun _ _ _ e=>(x.inst e).type
 it:=fun _ _ X _=>by
  obtain ⟨cd,hcD⟩:=Option.isSome_iff_exists.mp Z.hc
  unfold xb at hcD
  split at hcD
  case h_2=>cases hcD
  case h_1 c' d' cd' sl' ho =>
   intro A' Q' E' s' k q
   unfold isType loadHead
   exact b7 (wpAny_loadPart (k _ _ (X _ _ ho)) (d6 q))
 ne:=fun h tp dd its n sl X htp=>by
  obtain ⟨cd,hcD⟩:=Option.isSome_iff_exists.mp Z.hc
  refine Bool.eq_false_iff.mpr fun q=>?_
  have e:C=tp:=Value.ref.inj (beq_iff_eq.mp q)
  subst e
  unfold xb at hcD
  split at hcD
  case h_2=>cases hcD
  case h_1 c' d' cd' sl' ho =>
   have z:=(X _ _ ho).symm.trans htp
   cases z
 ca:=fun {_ _ _ _ _ s} X e k=>by
  have hf:=uF Z.hc Z.ha Z.hn Z.tk
  have I:=x.inst e
  exact AU X I Z.ga Z.gt Z.sb hf (rn (W.class_get (s:={ s with toks:=s.toks+1 }) (ox:=oe) (od:=none) X I Z.hm (W.handed_on rfl k)))
noncomputable def clV:V->Option b9
 | .ref D=>some (.ref D)
 | .ty T=>some (.type T)
 | _=>none
noncomputable def rIsX (K:m6):List V->Hp->VK->Prop:=fun xs H Q=>∃a oe C c cv b,xs=[.ref a,c]/\H a=some (KN oe)/\qS oe C/\XI K C/\clV c=some cv/\cI K (.ref C) cv=some b/\Q (.bl b) H
theorem aO :bE X (.builtin "isinstance") (rIsX X.K):=by
 intro pins s σ H xs us Q I r h
 obtain ⟨a,oe,C,c,cv,b,rfl,ha,x,Z,hcv,hk,q⟩:=h
 cases r with
 | cons r1 rr =>
  cases rr with
  | cons r2 rr =>
   cases rr
   cases r1
   have ec:∀u,K2 c u->u=cv:=fun u ru=>by
    cases c with
    | ref D=>cases hcv;exact ru
    | ty T=>cases hcv;exact ru
    | _=>cases hcv
   have eu:=ec _ r2
   subst eu
   exact bg (DT Z x) I.kIn (I.hok.kn ha) hk (by intro z;cases z) fun tk=>⟨.bl b,H,I.tok tk,rfl,q⟩
theorem yW:∀{bs:List Bool}{us:List b9},K4 (bs.map V.bl) us->us=bs.map R1
 | [],_,.nil=>rfl
 | _::_,_,.cons r t=>by rw[yW t];cases r;rfl
noncomputable def KO:V->List V->Hp->VK->Prop:=fun x vs H Q=>∃(l:Addr) (bs:List Bool) (j:Nat),x=.ref l/\vs=[.bl true]/\H l=some (.lst (bs.map V.bl))/\bs[j]?=some true/\(∀m,m<j->bs[m]?=some false)/\Q (.int j) H
theorem AM :MtR X "list.index" KO:=by
 intro pins s σ H x vs v us Q I rx rv h
 obtain ⟨l,bs,j,rfl,rfl,hH,hj,hno,q⟩:=h
 cases rx
 obtain ⟨u,rfl,ru⟩:=rv.one
 cases ru
 obtain ⟨z,its,n,r,hl,e⟩:=I.lstM hH
 have ei:=yW r
 subst ei
 obtain ⟨j1,j2⟩:=List.getElem?_eq_some_iff.mp hj
 have z':bs.length<=i0:=by simpa using z
 have hsz:i0<2 ^ 63 - 1:=by decide
 refine iJ F.slot_list_index ⟨_,e,rfl⟩ F.entry_list_index (F.args_list_index_2 _ _)
  (SeqAt.list_indexAt l (bs.map R1).toArray n none #[] (.bool true) (fun y=>y == R1 true) j (by simpa using j1) (by lia) ?_ ?_) ⟨e,fun y hy=>?_,?_⟩
 ·simp[j2]
 ·intro m hm hlt
  have:=hno m hlt
  obtain ⟨m1,m2⟩:=List.getElem?_eq_some_iff.mp this
  simp[m2]
 ·obtain ⟨b,hb,rfl⟩:∃b,b∈bs/\R1 b=y:=by simpa using hy
  have eb:(R1 b == R1 true)=(b == true):=by cases b <;> rfl
  show BU _ _ _ _ (R1 b == R1 true)
  rw[eb]
  exact SeqAt.EqAt.bool_bool b true
 ·exact ⟨.int j,H,I.tok _,⟨_,rfl⟩,q⟩
noncomputable def iA (cl:List (Str × Addr)) (b:Addr):Prop:=∃x,cl.lookup x=some b
open Classical in
noncomputable def cU (cl:List (Str × Addr)) (H:Hp):Hp:=fun b=>if iA cl b then none else H b
open Classical in
noncomputable def xm (cl:List (Str × Addr)) (H H':Hp):Hp:=fun b=>if iA cl b then H b else H' b
theorem ig (h:iA cl b):cU cl H b=none:=by unfold cU;rw[if_pos h]
theorem P6 (h:¬ iA cl b):cU cl H b=H b:=by unfold cU;rw[if_neg h]
theorem yc (h:iA cl b):xm cl H H' b=H b:=by unfold xm;rw[if_pos h]
theorem dm (h:¬ iA cl b):xm cl H H' b=H' b:=by unfold xm;rw[if_neg h]
noncomputable def wW (cl:List (Str × Addr)) (H:Hp):Prop:=∀x c,cl.lookup x=some c->∃oc v,H c=some (KN oc)/\oc.data=.cell v
section
variable {P:j7}{w:u9}{fs:List Addr}{cl:List (Str × Addr)}{H H':Hp}{h h':Heap}
theorem DE (ok:cG P w H h) (ck:wW cl H):cG P w (cU cl H) h:=fun b o e=>by
 have nb:¬ iA cl b:=fun z=>by rw[ig z] at e;cases e
 rw[P6 nb] at e
 have nk:∀c u,H c=some u->(∀oc,u≠KN oc)->¬ iA cl c:=fun c u q n ⟨x,z⟩=>by
  obtain ⟨oc,v,q',_⟩:=ck x c z
  rw[q] at q'
  exact n oc (C1 q')
 refine (ok b o e).stay (fun _ _ _ q=>q) (fun c q=>?_) fun c xs q=>?_
 ·rw[P6 (nk c _ q (by intro oc z;cases z))];exact q
 ·rw[P6 (nk c _ q (by intro oc z;cases z))];exact q
theorem GB (u:Un fs [] (cU cl H) H' h h') (ok:cG P w H h) (ck:wW cl H) (hfs:∀b∈fs,H b=none):Un fs [] H (xm cl H H') h h':=by
 have nc:∀b,H b=none->¬ iA cl b:=fun b n ⟨x,z⟩=>by
  obtain ⟨oc,v,q,_⟩:=ck x b z
  rw[n] at q;cases q
 have nk:∀c u,H c=some u->(∀oc,u≠KN oc)->¬ iA cl c:=fun c u q n ⟨x,z⟩=>by
  obtain ⟨oc,v,q',_⟩:=ck x c z
  rw[q] at q'
  exact n oc (C1 q')
 refine ⟨fun b o e n hb hx=>u.keep b o e (by rw[P6 (nc b n)];exact n) hb hx,fun b o e n hb hx=>u.slot b o e (by rw[P6 (nc b n)];exact n) hb hx,fun b o e n hx=>?_,u.there,fun b xs q=>?_,fun b o xs q=>?_,fun b ps q=>?_⟩
 ·rw[dm (nc b n)]
  exact u.free b o e (by rw[P6 (nc b n)];exact n) hx
 ·have z:=nk b _ q (by intro oc z;cases z)
  rw[dm z]
  exact u.tups b xs (by rw[P6 z];exact q)
 ·by_cases z:iA cl b
  ·rw[yc z];exact q
  ·rw[dm z]
   exact u.frzs b o xs (by rw[P6 z];exact q)
 ·have z:=nk b _ q (by intro oc z;cases z)
  obtain ⟨m,e⟩:=u.tbls b ps (by rw[P6 z];exact q)
  exact ⟨m,by rw[dm z];exact e⟩
theorem DW (u:Un fs [] (cU cl H) H' h h') (ok:cG P w H h) (ok':cG P w H' h') (ck:wW cl H) (hfs:∀b∈fs,H b=none):cG P w (xm cl H H') h':=fun b o e=>by
 have hn:∀c,iA cl c->H' c=none/\∃oc v,H c=some (KN oc)/\oc.data=.cell v/\h'.get? c=some oc:=fun c z=>by
  obtain ⟨x,zx⟩:=z
  obtain ⟨oc,v,q,d⟩:=ck x c zx
  have g:=ok.kn q
  exact ⟨u.free c oc g (ig ⟨x,zx⟩) (by simp),oc,v,q,d,u.keep c oc g (ig ⟨x,zx⟩) (fun hb=>by rw[hfs c hb] at q;cases q) (by simp)⟩
 by_cases z:iA cl b
 ·rw[yc z] at e
  obtain ⟨_,oc,v,q,d,g⟩:=hn b z
  rw[q] at e
  cases e
  exact sC g
 ·rw[dm z] at e
  refine (ok' b o e).stay (fun _ _ _ q=>q) (fun c q=>?_) fun c xs q=>?_
  ·rw[dm (fun zc=>by rw[(hn c zc).1] at q;cases q)];exact q
  ·rw[dm (fun zc=>by rw[(hn c zc).1] at q;cases q)];exact q
theorem HJ {Hf:Hp} (u:Un fs [] Hf H' h h') (ok:cG P w Hf h) (ok':cG P w H' h') (ck:wW cl Hf) (hc:∀b,iA cl b->H b=none) (ho:∀b,¬ iA cl b->Hf b=H b):Un fs [] H (cU cl H') h h'/\cG P w (cU cl H') h':=by
 have hk:∀b,iA cl b->∃oc v,H' b=some (KN oc)/\oc.data=.cell v/\h.get? b=some oc/\h'.get? b=some oc:=fun b z=>by
  obtain ⟨x,zx⟩:=z
  obtain ⟨oc,v,q,d⟩:=ck x b zx
  have q':=u.frzs b _ _ q
  exact ⟨oc,v,q',d,ok.kn q,ok'.kn q'⟩
 have nk:∀c u,H' c=some u->(∀oc,u≠KN oc)->¬ iA cl c:=fun c u q n z=>by
  obtain ⟨oc,v,q',_⟩:=hk c z
  rw[q] at q'
  exact n oc (C1 q')
 have nh:∀c u,H c=some u->¬ iA cl c:=fun c u q z=>by rw[hc c z] at q;cases q
 refine ⟨⟨fun b o e n hb hx=>?_,fun b o e n hb hx=>?_,fun b o e n hx=>?_,u.there,fun b xs q=>?_,fun b o xs q=>?_,fun b ps q=>?_⟩,fun b o e=>?_⟩
 ·by_cases z:iA cl b
  ·obtain ⟨oc,v,_,_,g,g'⟩:=hk b z
   rw[e] at g;cases g
   exact g'
  ·exact u.keep b o e (by rw[ho b z];exact n) hb hx
 ·by_cases z:iA cl b
  ·obtain ⟨oc,v,_,_,g,g'⟩:=hk b z
   rw[e] at g;cases g
   exact ⟨o.slots,g'⟩
  ·exact u.slot b o e (by rw[ho b z];exact n) hb hx
 ·by_cases z:iA cl b
  ·exact ig z
  ·rw[P6 z]
   exact u.free b o e (by rw[ho b z];exact n) hx
 ·have z:=nh b _ q
  rw[P6 z]
  exact u.tups b xs (by rw[ho b z];exact q)
 ·have z:=nh b _ q
  rw[P6 z]
  exact u.frzs b o xs (by rw[ho b z];exact q)
 ·have z:=nh b _ q
  obtain ⟨m,e⟩:=u.tbls b ps (by rw[ho b z];exact q)
  exact ⟨m,by rw[P6 z];exact e⟩
 ·have z:¬ iA cl b:=fun z=>by rw[ig z] at e;cases e
  rw[P6 z] at e
  refine (ok' b o e).stay (fun _ _ _ q=>q) (fun c q=>?_) fun c xs q=>?_
  ·rw[P6 (nk c _ q (by intro oc z;cases z))];exact q
  ·rw[P6 (nk c _ q (by intro oc z;cases z))];exact q
end
noncomputable def kJ (q:Str) (T:Addr) (H:Hp):Prop:=∃ps,H T=some (.tbl ps)/\iu ps.toList /\
 ∀pos v,ir pos ps.toList=some v->∃c oc vs t,v=.ref c/\H c=some (KN oc)/\oc.data=.fields vs/\vs[1]?=some (.str q t)
theorem nq {l:List b9} (h:iu l):l=[] ∨ ∃i t j u c r,l=.int i t::.int j u::c::r/\iu r:=by
 unfold iu at h
 split at h
 ·exact .inl rfl
 ·exact .inr ⟨_,_,_,_,_,_,rfl,h⟩
 ·exact h.elim
theorem vA {l:List b9}{i j:Int}{t u:Tok}{c:b9} (h:iu l):iu (l++[.int i t,.int j u,c]):=by
 generalize hn:l.length=n
 induction n using JB generalizing l with
 | _ n ih =>
  rcases nq h with e|⟨a,ta,b,tb,x,r,e,hr⟩
  ·subst e;trivial
  ·subst e
   have z:iu (r++[.int i t,.int j u,c]):=ih r.length (by rw[<- hn];simp only[m9];lia) hr rfl
   exact z
theorem Bp {pos:Pos}{l:List b9}{i j:Int}{t u:Tok}{c v:b9} (h:iu l) (e:ir pos (l++[.int i t,.int j u,c])=some v):ir pos l=some v ∨ v=c:=by
 generalize hn:l.length=n
 induction n using JB generalizing l with
 | _ n ih =>
  rcases nq h with q|⟨a,ta,b,tb,x,r,q,hr⟩
  ·subst q
   have e':(if (i == (pos.line:Int)&&j == (pos.col:Int))=true then some c else ir pos [])=some v:=e
   by_cases z:(i == (pos.line:Int)&&j == (pos.col:Int))=true
   ·rw[if_pos z] at e';exact .inr (C1 e').symm
   ·rw[if_neg z] at e';cases e'
  ·subst q
   have e':(if (a == (pos.line:Int)&&b == (pos.col:Int))=true then some x else ir pos (r++[.int i t,.int j u,c]))=some v:=e
   show (if (a == (pos.line:Int)&&b == (pos.col:Int))=true then some x else ir pos r)=some v ∨ v=c
   by_cases z:(a == (pos.line:Int)&&b == (pos.col:Int))=true
   ·rw[if_pos z] at e'
    rw[if_pos z]
    exact .inl e'
   ·rw[if_neg z] at e'
    rw[if_neg z]
    exact ih r.length (by rw[<- hn];simp only[m9];lia) hr e' rfl
structure LB (X:Cx) (T:Addr):Prop where
 code:∃c,X.env.code=.ref c/\W.CodeHd X.base c T
 blt:X.base.BuiltinsAt X.mg T
noncomputable abbrev wd (X:Cx):Str:=X.env.qual++"<lambda>"
noncomputable abbrev DS (X:Cx) (params:dH) (body:Expr) (scope:T5) (c:Addr) (ctv:b9):Obj:=Bx "<lambda>" (wd X) params body scope (W9 X.env scope.names []) ((X.mg "__name__").getD .none) c ctv
noncomputable def Ac (q:Str) (H:Hp) (c:Addr):Prop:=∃oc vs t,H c=some (KN oc)/\oc.data=.fields vs/\vs[1]?=some (.str q t)
noncomputable def tLam (X:Cx) (T:Addr) (params:dH) (body:Expr) (scope:T5):TE:=fun σ H Q=>kJ (wd X) T H /\
 ∀f c ctv H',(∀b o,b≠T->H b=some o->H' b=some o)->kJ (wd X) T H'->H f=none->H' f=some (KN (DS X params body scope c ctv))->Ac (wd X) H' c->Q (.ref f) H'
variable {T:Addr}
theorem AF {params:dH}{body:Expr}{pos:Pos} (Z:LB X T) (hdef:defaultsOf params X.env=([],[]):=by rfl) (hf:bO scope X.env=true:=by rfl):
  PE X (.Lambda params body scope pos) (tLam X T params body scope):=by
 intro pins s σ H Q I h
 obtain ⟨⟨ps,hP,ht,hk⟩,q⟩:=h
 obtain ⟨c,hc,C⟩:=Z.code
 obtain ⟨bm,ob,b1,b2,b3,b4,b5,b6⟩:=Z.blt
 have hcl:=fV (I.closed hf)
 have hg:=I.mod.glob.keeps I.bk
 have gP:s.heap.get? T=some (EY ps):=I.hok T _ hP
 have hgT:t8≠T:=fun z=>by
  obtain ⟨o,es,ep,e,hd,_⟩:=hg
  rw[z,gP] at e;cases e;cases hd
 have hB:s.heap.BuiltinsAt X.mg T:=⟨bm,ob,b1,b2,b3,b4,I.bk _ _ b5,b6⟩
 refine W.kla_eval hdef ?_
 cases e:ir pos ps.toList with
 | none =>
  refine W.kla_makeFunction (mg:=X.mg) hcl I.ok.glob hg hc (C.keeps I.bk) gP ht e hgT hB fun c' ctv h' tk hx hge hlt hrec htb=>?_
  obtain ⟨c2,oc,vs,t,e2,hoc,hd,hv⟩:=hrec
  cases e2
  have nT:T<s.heap.objs.size:=i5 gP
  have cT:c'≠T:=fun z=>absurd hge (by rw[z];exact Nat.not_le_of_lt nT)
  have fT:h'.objs.size≠T:=fun z=>absurd (B8 hge hlt) (by rw[z];exact Nat.lt_asymm nT)
  have fc:c'≠h'.objs.size:=n0 hlt
  have sz:s.heap.objs.size<=h'.objs.size:=j0 hge (aC hlt)
  have nc:H c'=none:=I.hok.fresh hge
  have nf:H h'.objs.size=none:=I.hok.fresh sz
  generalize hfo:Bx "<lambda>" (X.env.qual++"<lambda>") params body scope (W9 X.env scope.names []) ((X.mg "__name__").getD .none) c' ctv=fo
  generalize hps:ps++#[U9 pos.line,U9 pos.col,.ref c']=ps' at htb
  have hfree:fo.isFreed=false:=by rw[<- hfo];rfl
  have kp:∀b o,b≠T->s.heap.get? b=some o->(h'.push fo).get? b=some o:=fun b o hb eb=>d7 _ (hx b o hb eb)
  let H1:Hp:=n8 (n8 (n8 H T (.tbl ps')) c' (KN oc)) h'.objs.size (KN fo)
  have hT1:H1 T=some (.tbl ps'):=by
   show n8 (n8 (n8 H T (.tbl ps')) c' (KN oc)) h'.objs.size (KN fo) T=_
   rw[A1 (F6 fT),A1 (F6 cT),f9]
  have hc1:H1 c'=some (KN oc):=by
   show n8 (n8 (n8 H T (.tbl ps')) c' (KN oc)) h'.objs.size (KN fo) c'=_
   rw[A1 fc,f9]
  have hf1:H1 h'.objs.size=some (KN fo):=f9
  have ho1:∀b,b≠T->b≠c'->b≠h'.objs.size->H1 b=H b:=fun b z1 z2 z3=>by
   show n8 (n8 (n8 H T (.tbl ps')) c' (KN oc)) h'.objs.size (KN fo) b=_
   rw[A1 z3,A1 z2,A1 z1]
  have hs1:∀b o,b≠T->H b=some o->H1 b=some o:=fun b o z eb=>by
   rw[ho1 b z (v5 eb nc) (v5 eb nf)];exact eb
  have old:∀b o,s.heap.get? b=some o->b≠c'/\b≠h'.objs.size:=fun b o eb=>⟨n0 (A3 (i5 eb) hge),n0 (A3 (i5 eb) sz)⟩
  have uT:∀b,H b=none->b≠T:=fun b n z=>by rw[z,hP] at n;cases n
  have U:Un X.fs [] H H1 s.heap (h'.push fo):=by
   refine ⟨fun b o eb n _ _=>kp b o (uT b n) eb,fun b o eb n _ _=>⟨o.slots,kp b o (uT b n) eb⟩,fun b o eb n _=>?_,fun b o eb _=>?_,fun b xs eb=>?_,fun b o u eb=>?_,fun b qs eb=>?_⟩
   ·rw[ho1 b (uT b n) (old b o eb).1 (old b o eb).2];exact n
   ·by_cases z:b=T
    ·subst z;exact ⟨_,d7 _ htb⟩
    ·exact ⟨o,kp b o z eb⟩
   ·exact hs1 b _ (fun z=>by rw[z,hP] at eb;cases eb) eb
   ·exact hs1 b _ (fun z=>by rw[z,hP] at eb;cases eb) eb
   ·by_cases z:b=T
    ·subst z
     rw[hP] at eb;cases eb
     exact ⟨_,by rw[hT1,<- hps]⟩
    ·exact ⟨#[],by rw[hs1 b _ z eb];simp⟩
  have OK:cG X.prog X.w H1 (h'.push fo):=fun b o eb=>by
   by_cases z1:b=T
   ·subst z1
    rw[hT1] at eb;cases eb
    exact d7 _ htb
   ·by_cases z2:b=c'
    ·subst z2
     rw[hc1] at eb;cases eb
     exact sC (d7 _ hoc)
    ·by_cases z3:b=h'.objs.size
     ·subst z3
      rw[hf1] at eb;cases eb
      exact sC (j9 _ hfree)
     ·rw[ho1 b z1 z2 z3] at eb
      refine (I.hok b o eb).stay (fun d v hd qd=>kp d v ?_ qd) (fun d qd=>hs1 d _ (fun z=>by rw[z,hP] at qd;cases qd) qd) fun d xs qd=>hs1 d _ (fun z=>by rw[z,hP] at qd;cases qd) qd
      rcases hd with hd|hd
      ·rw[hd];exact z1
      ·intro z;rw[z,hP] at hd;cases hd
  have I1:=I.un (t':=tk) U OK
  have fin:=q h'.objs.size c' ctv H1 hs1 ⟨ps',hT1,?_,fun pos' v ev=>?_⟩ nf (by rw[hf1,<- hfo]) ⟨oc,vs,t,hc1,hd,hv⟩
  ·exact ⟨.ref h'.objs.size,H1,I1,rfl,fin⟩
  ·rw[<- hps]
   have z:=vA (i:=pos.line) (j:=pos.col) (t:=0) (u:=0) (c:=.ref c') ht
   simpa [U9] using z
  ·rw[<- hps] at ev
   have ev':ir pos' (ps.toList++[.int pos.line 0,.int pos.col 0,.ref c'])=some v:=by simpa [U9] using ev
   rcases Bp ht ev' with z|z
   ·obtain ⟨c3,oc3,vs3,t3,y1,y2,y3,y4⟩:=hk pos' v z
    exact ⟨c3,oc3,vs3,t3,y1,hs1 c3 _ (fun z=>by rw[z,hP] at y2;cases y2) y2,y3,y4⟩
   ·exact ⟨c',oc,vs,t,z,hc1,hd,hv⟩
 | some cv =>
  obtain ⟨c3,oc3,vs3,t3,y1,y2,y3,y4⟩:=hk pos cv e
  subst y1
  refine W.kla_makeFunctionHit (mg:=X.mg) hcl I.ok.glob hg hc (C.keeps I.bk) gP ht e hB fun ctv h' tk hkp sz=>?_
  have nf:H h'.objs.size=none:=I.hok.fresh sz
  have kp:∀b o,s.heap.get? b=some o->(h'.push (DS X params body scope c3 ctv)).get? b=some o:=fun b o eb=>d7 _ (hkp b o eb)
  have I1:=I.laid (t':=tk) (o:=KN (DS X params body scope c3 ctv)) kp sz (sC (j9 _ rfl))
  have hs1:∀b o,H b=some o->n8 H h'.objs.size (KN (DS X params body scope c3 ctv)) b=some o:=fun b o eb=>by rw[A1 (v5 eb nf)];exact eb
  refine ⟨.ref h'.objs.size,_,I1,rfl,q h'.objs.size c3 ctv _ (fun b o _ eb=>hs1 b o eb) ⟨ps,hs1 _ _ hP,ht,fun pos' v ev=>?_⟩ nf f9 ⟨oc3,vs3,t3,hs1 _ _ y2,y3,y4⟩⟩
  obtain ⟨c4,oc4,vs4,t4,x1,x2,x3,x4⟩:=hk pos' v ev
  exact ⟨c4,oc4,vs4,t4,x1,hs1 _ _ x2,x3,x4⟩
noncomputable def sM (P:j7) (w:u9) (K:m6) (mg:Str->Option b9) (base:Heap) (N:List Str) (qual:Str) (scope:T5) (f:Addr) (cd:b9) (cl:List (Str × Addr)) (A:A8) (outer:List Env) (s:d9) (H:Hp) (E:XK):Cx where
 prog:=P
 w:=w
 K:=K
 mg:=mg
 base:=base
 A:=A.deeper (oS qual scope s.heap.objs.size f cd cl)
 N:=N
 s₀:=s
 H₀:=H
 env:=oS qual scope s.heap.objs.size f cd cl
 outer:=outer
 stack:=oS qual scope s.heap.objs.size f cd cl::outer
 ex:=[]
 calm:=true
 fn:=fun _=>false
 pn:=[]
 xe:=fun e s'=>j6 (r6 P w) (A.deeper (oS qual scope s.heap.objs.size f cd cl)) (EV (oS qual scope s.heap.objs.size f cd cl) e) (fun _ s''=>lN P w outer H s E e s'') (fun e' s''=>lN P w outer H s E e' s'') s'
section
variable {P:j7}{w:u9}{K:m6}{mg:Str->Option b9}{base:Heap}{N:List Str}{qual:Str}{scope:T5}{f:Addr}{cd:b9}{cl:List (Str × Addr)}{A:A8}{outer:List Env}{s₀:d9}{H₀:Hp}{E:XK}
theorem FE:kG (lN P w) (sM P w K mg base N qual scope f cd cl A outer s₀ H₀ E) E:=by
 intro pins σ H s e s' I h
 obtain ⟨a,C,H',rfl,F,hE⟩:=h
 obtain ⟨T,x,n1,n2,n3,n4⟩:=F.exc
 have I':=I.call' (ch:=[]) F.os F.un F.hok F.bare (fun b z=>absurd z (by simp))
 exact uE I' rfl rfl rfl x (eS I.base n1) (fun T' z=>by cases z;exact eS I.base n2) n3 (fun T' z=>by cases z;exact n4) fun s'' F'=>⟨a,C,H',rfl,F',hE⟩
end
noncomputable def Ex (cl:List (Str × Addr)) (scope:T5) (N:List Str) (H:Hp) (σ:St):Prop:=σ.length=N.length /\
 ∀(i:Nat) (x:Str) (v:V),N[i]?=some x->σ[i]?=some (some v)->scope.names.lookup x=some .free/\∃c oc u,cl.lookup x=some c/\H c=some (KN oc)/\oc.data=.cell (some u)/\K2 v u
structure lL (cl:List (Str × Addr)) (scope:T5):Prop where
 kind:scope.kind=.function
 co:scope.isCoroutine=false
 gen:scope.isGenerator=false
 nocell:∀x∈scope.names,x.2≠.cell
 inj:∀x y c,cl.lookup x=some c->cl.lookup y=some c->x=y
 has:∀x,scope.names.lookup x=some .free->∃c,cl.lookup x=some c
theorem dC {α:Type}:∀{l:List (Str × α)}{x:Str}{c:α},l.lookup x=some c->∃y,(y,c)∈l/\y=x
 | [],_,_,h=>by cases h
 | (y,d)::r,x,c,h=>by
  by_cases z:(x == y)=true
  ·rw[E5,z] at h
   cases h
   exact ⟨y,i4,(beq_iff_eq.mp z).symm⟩
  ·rw[E5,Bool.eq_false_iff.mpr z] at h
   obtain ⟨y',m,e⟩:=dC h
   exact ⟨y',i3 _ m,e⟩
theorem lL.nc (S:lL cl scope) (h:scope.names.lookup x=some .cell):False:=by
 obtain ⟨y,m,_⟩:=dC h
 exact S.nocell _ m rfl
theorem fnL {f c:Addr}{qual:Str}{params:dH}{body:Expr}{pm ct:b9}{N:List Str}
  (S:lL cl scope)
  (hsp:∀vs H Q E,sp vs H Q E->vs=[]/\H f=some (KN (Bx name qual params body scope cl pm c ct))/\Ac qual H c/\wW cl H/\∃σ,Ex cl scope N H σ /\
   ∀(A:A8) (outer:List Env) (s:d9),cK k (A.deeper (oS qual scope s.heap.objs.size f (.ref c) cl))->∃t,PE (sM P w K mg base N qual scope f (.ref c) cl A outer s (cU cl H) (fun C d H'=>E C d (xm cl H H'))) body t/\t σ (cU cl H) (fun v H'=>Q v (xm cl H H'))):
  O5 P w K mg base (lN P w) (k+1) f (W.kla_fn name qual params body scope cl pm (.ref c) ct) [] sp:=by
 refine ⟨fun vs H Q E q=>by rw[(hsp vs H Q E q).1];rfl,fun A outer s H args us vs Q E hr e0 hb r hq=>?_⟩
 obtain ⟨rfl,hf,⟨oc,cvs,t,hc,hcd,hcv⟩,ck,σ,hσ,hrun⟩:=hsp _ _ _ _ hq
 have lim:s.heap.NoLimit:=e0.mod.nolimit.keeps fun b o e=>(e0.bs b o e).1
 have gf:=e0.hok.kn hf
 have gc:=e0.hok.kn hc
 refine W.kla_callFunE hr.depth gf rfl S.co S.gen rfl ⟨c,oc,cvs,t,rfl,gc,hcd,hcv⟩ (hb _ _ _ _ ?_)
 refine wpAny_newFunctionEnv S.nocell (fun x hx=>absurd hx (by simp)) (fun h1 hns hsb=>⟨lim.fresh _ hsb,?_⟩) S.kind
 show dc _ _ (.expr body (oS qual scope s.heap.objs.size f (.ref c) cl)) _ _
 have hk1:∀b o,s.heap.get? b=some o->h1.get? b=some o:=fun b o e=>hsb.extBut b o (n0 (i5 e)) (d7 _ e)
 obtain ⟨tt,hbody,ht⟩:=hrun A outer s (hr.deeper _)
 have hfs:∀b∈lG outer,H b=none:=e0.frf
 have ok0:=DE e0.hok ck
 have noff:∀b,H b=none->cU cl H b=none:=fun b n=>by
  by_cases z:iA cl b
  ·exact ig z
  ·rw[P6 z];exact n
 have nL:∀x d,cl.lookup x=some d->d<s.heap.objs.size/\∃oc v,s.heap.get? d=some oc/\oc.data=.cell v:=fun x d e=>by
  obtain ⟨oc,v,q,dd⟩:=ck x d e
  have g:=e0.hok.kn q
  exact ⟨i5 g,oc,v,g,dd⟩
 have I:C8 (sM P w K mg base N qual scope f (.ref c) cl A outer s (cU cl H) (fun C d H'=>E C d (xm cl H H'))) [] σ (cU cl H) { s with heap:=h1,toks:=s.toks+([]:List (Str × b9)).length }:=by
  have noA:∀b:Addr,b ∉ (sM P w K mg base N qual scope f (.ref c) cl A outer s (cU cl H) (fun C d H'=>E C d (xm cl H H'))).ex:=fun b z=>absurd (show b∈([]:List Addr) from z) (by simp)
  refine ⟨⟨e0.mod,S.kind,rfl,rfl,i6 _,S.inj,fun y hy=>?_,fun y d hy _=>absurd (show false=true from hy) (by simp),fun _=>hr.hd,yV e0.frames,.inr ⟨rfl,rfl⟩,fun b z=>absurd z (noA b),fun b o e=>⟨(e0.bs b o e).1,noff b (e0.bs b o e).2⟩,e0.bsz,fun b _ _=>noA b,fun b z=>absurd z (noA b),e0.funs,fun b hb=>noff b (e0.frf b hb)⟩,
   rfl,e0.bare,Un.kept hk1,⟨_,hns,fun i y v h1' h2 h3=>?_⟩,fun y d h=>?_,noff _ (e0.hok.fresh (i6 _)),fun y d h=>ig ⟨y,h⟩,fun p hp=>absurd (show p∈([]:List (Addr × Obj)) from hp) (by simp),ok0.kept hk1,hσ.1⟩
  ·have hy':scope.names.lookup y=some .cell ∨ scope.names.lookup y=some .free:=hy
   rcases hy' with hy'|hy'
   ·exact (S.nc hy').elim
   ·exact S.has y hy'
  ·obtain ⟨kf,d,oc',u,e1,e2,e3,rv⟩:=hσ.2 i y v h1' h2
   exact ⟨u,rv,.inr ⟨.inr kf,d,e1,oc',hk1 _ _ (e0.hok.kn e2),e3⟩⟩
  ·obtain ⟨_,oc',v,g,dd⟩:=nL y d h
   exact ⟨v,oc',hk1 _ _ g,dd⟩
 refine W.kla_codeExpr (F5 (hbody [] _ σ (cU cl H) _ I ht) (fun u s' ⟨v,H',J,rv,q⟩=>?_) fun e s' hx=>?_)
 ·exact ⟨v,xm cl H H',J.os,J.bare,GB J.base e0.hok ck hfs,DW J.base e0.hok J.hok ck hfs,rv,q⟩
 ·have conv:∀e s'',lN P w outer (cU cl H) s (fun C d H'=>E C d (xm cl H H')) e s''->lN P w outer H s E e s'':=fun e s'' h=>by
   obtain ⟨a,C,H',rfl,F,hE⟩:=h
   obtain ⟨T,x,n1,n2,n3,n4⟩:=F.exc
   have nC:∀b,s.heap.get? b=none->¬ iA cl b:=fun b n ⟨x,z⟩=>by
    obtain ⟨_,oc',v,g,_⟩:=nL x b z
    rw[n] at g;cases g
   exact ⟨a,C,xm cl H H',rfl,⟨F.os,F.bare,GB F.un e0.hok ck hfs,DW F.un e0.hok F.hok ck hfs,T,x,n1,n2,by rw[dm (nC a n1)];exact n3,by rw[dm (nC T n2)];exact n4⟩,hE⟩
  exact F5 hx (fun _ s'' h=>conv e s'' h) fun e' s'' h=>conv e' s'' h
structure qR (X:Cx) (σ:St) (H Hf:Hp):Prop where
 out:∀b,¬ iA X.env.cells b->Hf b=H b
 none:∀b,iA X.env.cells b->H b=none
 cell:wW X.env.cells Hf
 val:∀(i:Nat) (x:Str) (v:V),X.N[i]?=some x->σ[i]?=some (some v)->(X.env.kindOf x=some .cell ∨ X.env.kindOf x=some .free)->∃c oc u,X.env.cells.lookup x=some c/\Hf c=some (KN oc)/\oc.data=.cell (some u)/\K2 v u
open Classical in
noncomputable def kE (cl:List (Str × Addr)) (h:Heap) (H:Hp):Hp:=fun b=>if iA cl b then (h.get? b).map (fun o=>KN o) else H b
theorem C8.frz {X:Cx}{pins:List (Addr × Obj)}{σ:St}{H:Hp}{s:d9} (I:C8 X pins σ H s):qR X σ H (kE X.env.cells s.heap H)/\cG X.prog X.w (kE X.env.cells s.heap H) s.heap:=by
 have hin:∀b,iA X.env.cells b->∃o v,s.heap.get? b=some o/\o.data=.cell v/\kE X.env.cells s.heap H b=some (KN o):=fun b z=>by
  obtain ⟨x,zx⟩:=z
  obtain ⟨v,o,e,d⟩:=I.cell x b zx
  refine ⟨o,v,e,d,?_⟩
  unfold kE
  rw[if_pos ⟨x,zx⟩,e]
  rfl
 have hout:∀b,¬ iA X.env.cells b->kE X.env.cells s.heap H b=H b:=fun b z=>by unfold kE;rw[if_neg z]
 have hno:∀b,iA X.env.cells b->H b=none:=fun b ⟨x,z⟩=>I.freeC x b z
 refine ⟨⟨hout,hno,fun x c z=>?_,fun i x v h1 h2 h3=>?_⟩,fun b o e=>?_⟩
 ·obtain ⟨o,v,_,d,q⟩:=hin c ⟨x,z⟩
  exact ⟨o,v,q,d⟩
 ·obtain ⟨m,hn,hl⟩:=I.loc
  obtain ⟨u,r,lk⟩:=hl i x v h1 h2 (by rcases h3 with h3|h3;exact .inr (.inl h3);exact .inr (.inr h3))
  rcases lk with ⟨z,_⟩|⟨_,c,e,oc,g,d⟩
  ·rw[z] at h3
   rcases h3 with h3|h3 <;> cases h3
  ·obtain ⟨o,v',g',d',q⟩:=hin c ⟨x,e⟩
   rw[g] at g';cases g'
   exact ⟨c,oc,u,e,q,d,r⟩
 ·by_cases z:iA X.env.cells b
  ·obtain ⟨o',v,g,d,q⟩:=hin b z
   rw[q] at e;cases e
   exact sC g
  ·rw[hout b z] at e
   refine (I.hok b o e).stay (fun _ _ _ q=>q) (fun c q=>?_) fun c xs q=>?_
   ·rw[hout c (fun zc=>by rw[hno c zc] at q;cases q)];exact q
   ·rw[hout c (fun zc=>by rw[hno c zc] at q;cases q)];exact q
noncomputable def Cw (X:Cx) (sp:Sp) (t:TA):TE:=fun σ H Q=>t σ H fun vs H1=>∀Hf,qR X σ H1 Hf->sp vs Hf (fun v H'=>Q v (cU X.env.cells H')) E0
variable {e:Expr}{es:List Expr}
theorem Dk {f:Addr}{fd:C5}{p pos:Pos}{t:TA} (F:O5 X.prog X.w X.K X.mg X.base dQ k f fd ps sp) (hr:cK k X.A) (hg:Gl X x) (hm:X.mg x=some (.ref f)) (hk:cJ X.K (.ref f)=true) (hb:jY X.K fd ps [])
  (hfn:∀y,X.fn y=true:=by intro y;rfl)
  (ha:PA X (e::es) t) (hdb:(x == ("__debug__":Str))=false:=by decide) (he:A4 (e::es) X.env=(false,eval e X.env)::A4 es X.env:=by rfl) (hpl:(aW pos (A4 es X.env)).any (·.1)=false:=by rfl):
  PE X (.Call (.Name x p) (e::es) [] pos) (Cw X sp t):=by
 intro pins s σ H Q I h
 refine dq (lA I hg hm ?_ hdb)
 refine W.callWith_K (h₀:=X.base) I.ok.mod.kin hk (W8 (ha pos pins s σ H _ I h) fun us s1 ⟨vs,H1,I1,r,q⟩=>⟨I1.kIn,?_⟩) he hpl
 obtain ⟨fz,hokf⟩:=I1.frz
 have q':=q _ fz
 have r2:K4 (vs++[]) (us++[]):=r.append .nil
 have hl:(us++[]).length=ps.length:=by rw[<- r2.length,V5];exact F.len _ _ _ _ q'
 have e0:=I1.env0
 have nof:∀b o,X.base.get? b=some o->¬ iA X.env.cells b:=fun b o eb ⟨y,z⟩=>absurd (A3 (i5 eb) I.ok.bsz) (ef (I.ok.cab y b (hfn y) z))
 have hfr:∀b∈lG X.stack,¬ iA X.env.cells b:=fun b hb ⟨y,z⟩=>by
  rcases List.mem_cons.mp (I1.stkSub b hb) with e|hb
  ·exact I1.cne y b z e
  ·obtain ⟨_,o,ho,_⟩:=I1.ok.funs.mem hb
   exact absurd (i5 ho) (ef (I.ok.cab y b (hfn y) z))
 have e1:Ez X.prog X.w X.K X.mg X.base X.A X.stack s1 (kE X.env.cells s1.heap H1):=⟨e0.frames,e0.mod,fun b o eb=>⟨(e0.bs b o eb).1,by rw[fz.out b (nof b o eb)];exact (e0.bs b o eb).2⟩,e0.bsz,e0.funs,fun b hb=>by rw[fz.out b (hfr b hb)];exact e0.frf b hb,hokf,e0.bare⟩
 refine rn (gJ (F.run X.A X.stack s1 _ ⟨us,[]⟩ us vs _ E0 hr e1 (by have z:=hb s1 us I1.kIn hl;rw[V5] at z;exact z) r q') fun res s' hq=>?_)
 cases res with
 | error e=>exact F7 hq
 | ok fl =>
  cases fl with
  | ret u =>
   obtain ⟨v,H',os,bare,un,hok,rv,qq⟩:=hq
   obtain ⟨un',hok'⟩:=HJ (H:=H1) un hokf hok fz.cell fz.none fz.out
   exact I1.after ⟨v,_,os,bare,un',hok',rv,qq⟩
  | next=>exact F7 hq
  | brk=>exact F7 hq
  | cont=>exact F7 hq
noncomputable abbrev TJ:=St->Hp->(Hp->Prop)->Prop
noncomputable def PJ (X:Cx) (es:List Expr) (n:Nat) (t:TJ):Prop :=
 ∀(acc:Str),acc.length<=n->∀(pins:List (Addr × Obj)) (s:d9) (σ:St) (H:Hp) (Q:Hp->Prop),C8 X pins σ H s->t σ H Q ->
  j6 (r6 X.prog X.w) X.A (Mm acc (evalEach es X.env)) (fun u s'=>∃z H',C8 X pins σ H' s'/\K2 (.str z) u/\Q H') X.xe s
section
variable {X:Cx}{es:List Expr}{n:Nat}{t:TJ}
theorem CY (h:n<=i0:=by decide):PJ X [] n (fun _ H Q=>Q H):=by
 intro acc ha pins s σ H Q I q
 exact joinParts_nil (s:=s) ⟨acc,H,I.tok _,⟨_,rfl⟩,q⟩ (j0 ha h)
theorem ud {x:Str}{j:Nat}{pos:Pos} (h:PJ X es (n+x.length) t) (hz:n+x.length<=i0:=by decide):PJ X (.Constant (.str x) j pos::es) n t:=by
 intro acc ha pins s σ H Q I q
 show j6 _ _ (Mm acc (eval (.Constant (.str x) j pos) X.env::evalEach es X.env)) _ _ _
 refine joinParts_cons (Ci ⟨?_,?_⟩)
 ·rw[qY];lia
 ·exact h (acc++x) (by rw[qY];lia) pins _ σ H Q (I.tok _) q
theorem xY {e:Expr}{te:TE}{pos:Pos} (he:PE X e te) (h:PJ X es (n+100) t) (hz:n+100<=i0:=by decide):
  PJ X (.FormattedValue e (-1) none pos::es) n (fun σ H Q=>te σ H fun v H1=>∃i:Int,v=.int i/\i.natAbs.log2<1920/\(toString i:Str).length<=100/\t σ H1 Q):=by
 intro acc ha pins s σ H Q I q
 show j6 _ _ (Mm acc (eval (.FormattedValue e (-1) none pos) X.env::evalEach es X.env)) _ _ _
 refine joinParts_cons (FormattedValue_plain (W8 (he pins s σ H _ I q) fun u s1 ⟨v,H1,I1,r,i,ev,hl,hz',q1⟩=>?_))
 subst ev
 obtain ⟨tk,rfl⟩:=r
 refine formatField_int_small hl ⟨?_,?_⟩
 ·rw[qY];lia
 ·exact h _ (by rw[qY];lia) pins _ σ H1 Q (I1.tok _) q1
theorem zg {v1 v2:Expr}{jK:List Expr}{pos:Pos} (h:PJ X (v1::v2::jK) 0 t):PE X (.JoinedStr (v1::v2::jK) pos) (fun σ H Q=>t σ H fun H1=>∀z,Q (.str z) H1):=by
 intro pins s σ H Q I q
 exact JoinedStr_many (W8 (h Str.empty (i6 _) pins s σ H _ I q) fun u s1 ⟨z,H1,I1,r,q1⟩=>⟨.str z,H1,I1,r,q1 z⟩)
end
theorem yb :kG (lN P w) X E0:=fun _ _ _ _ _ _ _ h=>by
 obtain ⟨_,_,_,_,_,z⟩:=h
 exact z.elim
section
variable {P:j7}{w:u9}{K:m6}{mg:Str->Option b9}{base:Heap}
theorem cH.okX {x qual:Str}{st:Stmt}{f:Addr}{fd:C5}{N ps:List Str}{k:Nat}{sp:Sp} (F:cH K x qual st f fd) (S:D8 N ps (w6 st)) (len:∀vs H Q E,sp vs H Q E->vs.length=ps.length)
  (hbody:∀(cdv:b9) (A:A8) (outer:List Env) (s:d9) (H:Hp) (vs:List V) (Q:VK) (E:XK),cK k (A.deeper (ae qual (w6 st) s.heap.objs.size f cdv))->sp vs H Q E ->
   ∃t,rV (gy (lN P w) P w K mg base N qual (w6 st) f cdv A outer s H E) (bf st) t/\t { nx:=fun _ H'=>Q .non H',rt:=Q } (start N vs) H):O5 P w K mg base (lN P w) (k+1) f fd ps sp:=by
 obtain ⟨oc,od,kV,doc,pm,an,cdv,ct,osl,rfl,lk,hcd⟩:=F.ex
 exact Ea lk hcd S len fun A outer s H vs Q E hr hsp=>hbody cdv A outer s H vs Q E hr hsp
theorem cH.okC {x qual:Str}{st:Stmt}{f:Addr}{fd:C5}{N ps:List Str}{k:Nat}{sp:Sp} (F:cH K x qual st f fd) (S:D8 N ps (w6 st)) (len:∀vs H Q E,sp vs H Q E->vs.length=ps.length)
  (hbody:∀(cdv:b9) (A:A8) (outer:List Env) (s:d9) (H:Hp) (vs:List V) (Q:VK) (E:XK),fd.code=cdv->cK k (A.deeper (ae qual (w6 st) s.heap.objs.size f cdv))->sp vs H Q E ->
   ∃t,rV (gy dQ P w K mg base N qual (w6 st) f cdv A outer s H E).nox (bf st) t/\t { nx:=fun _ H'=>Q .non H',rt:=Q } (start N vs) H):O5 P w K mg base dQ (k+1) f fd ps sp:=by
 obtain ⟨oc,od,kV,doc,pm,an,cdv,ct,osl,rfl,lk,hcd⟩:=F.ex
 refine Ea lk hcd S len fun A outer s H vs Q E hr hsp=>?_
 obtain ⟨t,h,q⟩:=hbody cdv A outer s H vs Q E rfl hr hsp
 exact ⟨t,h.nox,q⟩
end
section
variable {P:j7}{w:u9}{K:m6}{mg:Str->Option b9}{base:Heap}{N:List Str}{qual:Str}{scope:T5}{f:Addr}{cd:b9}{A:A8}{outer:List Env}{s₀:d9}{H₀:Hp}{E:XK}
theorem mz {x:Str}{C:Addr}{e:Expr}{te:TE}{np cpos pos:Pos} (hm:mg x=some (.ref C)) (hc:XC K C) (he:PE (gy (lN P w) P w K mg base N qual scope f cd A outer s₀ H₀ E) e te)
  (hmono:∀σ H (Q Q':VK),(∀v H1,Q v H1->Q' v H1)->te σ H Q->te σ H Q')
  (hg:Gl (gy (lN P w) P w K mg base N qual scope f cd A outer s₀ H₀ E) x:=by rfl)
  (hdb:(x == ("__debug__":Str))=false:=by decide)
  (hst:A4 [e] (ae qual scope s₀.heap.objs.size f cd)=(false,eval e (ae qual scope s₀.heap.objs.size f cd))::A4 [] (ae qual scope s₀.heap.objs.size f cd):=by rfl):
  PS (gy (lN P w) P w K mg base N qual scope f cd A outer s₀ H₀ E) (.Raise (some (.Call (.Name x np) [e] [] cpos)) none pos) (fun _ σ H=>te σ H fun _ H1=>E (.ref C) none H1):=by
 have h:=CW (E:=E) (pos:=pos) (np:=np) (cpos:=cpos) (t:=fi te pA) hg hm hc (b8 he f6 (hs:=hst)) (i6 _) hdb hst rfl (fun σ H Q q=>hmono _ _ _ _ (fun v H1 z=>⟨by show 1<=i0;decide,z⟩) q)
 exact h
end
noncomputable def Ew (ts:List Addr) (H:Hp):Prop:=(∀b,H b=none ∨ (∃o xs,H b=some (.frz o (.lst xs))) ∨ (b∈ts/\H b=some (.tbl #[])))/\∀T∈ts,H T=some (.tbl #[])
theorem AR {mb:Str->Option b9}{fa:Addr}{fd:C5}{s1:d9}{vs:List b9}{ts:List Addr}
  (KX:K.In s1.heap) (hns:s1.heap.Ns t8 mg) (hb:s1.heap.Ns kR mb) (hbb:∀x:Str,x≠"__name__"->mb x=X1 x) (hlim:s1.heap.NoLimit) (hg:s1.gens=#[])
  (hbm:∃bm ob,mg "__builtins__"=some (.ref bm)/\bm≠kR/\s1.heap.get? bm=some ob/\ob.cls=.type "module"/\ob.dict=some kR/\ob.data=.plain)
  (ha:s1.heap.get? a=some { cls:=.type "list",data:=.seq vs.toArray }) (hi:az vs ns) (hl:ns.length<=i0) (hr:cK k tj)
  (tabs:∀T∈ts,s1.heap.get? T=some (EY #[])/\isCodeTable s1.heap T/\K.lookup T=none)
  (F:∀base:Heap,K.In base->base.Ns t8 mg->(∀T∈ts,base.BuiltinsAt mg T)->O5 P w K mg base dQ k fa fd [x] sp) (hbind:∀(s:d9) (u:b9),tF s fd ⟨[u],[]⟩ [(x,u)])
  (hsp:∀H:Hp,Ew ts H->dP K H a (ns.map V.int)->sp [.ref a] H (fun v _=>v=.bl true) fun _ _ _=>False):
  dc (r6 P w) tj (.call (.ref fa) ⟨[.ref a],[]⟩) (fun r s'=>r=.ok (.ret (.bool true))/\OldK s1.heap s'.heap/\s'.os=s1.os/\ju s'.gens) s1:=by
 have rv:=rX hi
 have lenV:=hi.length
 have aT:a ∉ ts:=fun z=>by
  have e:=(tabs a z).1
  rw[ha] at e;cases e
 have core:∀H:Hp,Ew ts H->dP K H a (ns.map V.int)->cG P w H s1.heap->(∀b,H b≠none->b=a ∨ b∈ts)->(H a≠none->K.lookup a=none) ->
   dc (r6 P w) tj (.call (.ref fa) ⟨[.ref a],[]⟩) (fun r s'=>r=.ok (.ret (.bool true))/\OldK s1.heap s'.heap/\s'.os=s1.os/\ju s'.gens) s1:=by
  intro H hO hS hok hA hK
  have base_of:∀{b:Addr}{o:Obj},s1.heap.get? b=some o->H b=none->(rQ s1.heap H).get? b=some o:=fun e n=>DX e n
  have noB:∀{b:Addr}{o:Obj},s1.heap.get? b=some o->(∀xs n,o.data≠.seq xs n)->(∀xs,o.data≠.fields xs)->H b=none:=fun {b o} e d1 d2=>by
   cases q:H b with
   | none=>rfl
   | some u =>
    rcases hA b (by rw[q];simp) with e'|e'
    ·subst e'
     rw[ha] at e;cases e
     exact absurd rfl (d1 _ _)
    ·rw[(tabs b e').1] at e;cases e
     exact absurd rfl (d2 _)
  have noA:∀{b:Addr}{o:Obj}{es:Array M4}{ep:Nat},s1.heap.get? b=some o->o.data=.dict es ep->H b=none:=fun {b o es ep} e d =>
   noB e (fun xs n z=>by rw[d] at z;cases z) (fun xs z=>by rw[d] at z;cases z)
  have nsK:∀{b:Addr}{m:Str->Option b9},s1.heap.Ns b m->(rQ s1.heap H).Ns b m:=fun {b m} ⟨o,es,ep,e,d,r⟩=>⟨o,es,ep,base_of e (noA e d),d,r⟩
  have hKb:K.In (rQ s1.heap H):=fun b o e=>base_of (KX b o e) (by
   cases q:H b with
   | none=>rfl
   | some u =>
    rcases hA b (by rw[q];simp) with e'|e'
    ·subst e'
     rw[hK (by rw[q];simp)] at e;cases e
    ·rw[(tabs b e').2.2] at e;cases e)
  have hM:Mod K mg (rQ s1.heap H):=⟨hKb,nsK hns,⟨mb,nsK hb,hbb⟩,let ⟨mc,h1,h2⟩:=hlim;⟨mc,nsK h1,h2⟩⟩
  have hBM:∀T∈ts,(rQ s1.heap H).BuiltinsAt mg T:=fun T hT=>by
   obtain ⟨bm,ob,b1,b2,b3,b4,b5,b6⟩:=hbm
   refine ⟨bm,ob,b1,b2,fun z=>?_,fun z=>?_,base_of b3 (noB b3 (fun xs n z=>by rw[b6] at z;cases z) (fun xs z=>by rw[b6] at z;cases z)),b4,b5,b6⟩
   ·obtain ⟨o,es,ep,e,d,_⟩:=hns
    rw[<- z,b3] at e;cases e
    rw[b6] at d;cases d
   ·rw[z,(tabs T hT).1] at b3;cases b3;cases b4
  have e0:Ez P w K mg (rQ s1.heap H) tj [] s1 H:=⟨rfl,hM,fun b o e=>FP e,Ap (AZ _ _),trivial,fun b hb=>absurd (show b∈([]:List Addr) from hb) (by simp),hok,.of_eq hg⟩
  refine gJ ((F _ hKb (nsK hns) hBM).run tj [] s1 H ⟨[.ref a],[]⟩ [.ref a] [.ref a] _ _ hr e0 (hbind s1 (.ref a)) (.cons rfl .nil) (hsp H hO hS)) fun r s' h=>?_
  cases r with
  | error e=>exact F7 h
  | ok fl =>
   cases fl with
   | next=>exact F7 h
   | brk=>exact F7 h
   | cont=>exact F7 h
   | ret u =>
    obtain ⟨v,H',os,bare,un,hok',r',q⟩:=h
    have q':v=.bl true:=q
    subst q'
    obtain rfl:u=R1 true:=r'
    refine ⟨rfl,⟨fun b o e=>?_,fun b o e=>un.there b o e (by simp)⟩,os,bare⟩
    cases q:H b with
    | none=>exact .inl (un.keep b o e q (by intro z;exact absurd (show b∈([]:List Addr) from z) (by simp)) (by simp))
    | some u =>
     rcases hO.1 b with z|⟨ob,xs,z⟩|⟨hT,z⟩
     ·rw[q] at z;cases z
     ·have z2:=un.frzs b ob _ z
      obtain ⟨e1,_⟩:=hok b _ z
      obtain ⟨e2,_⟩:=hok' b _ z2
      rw[e] at e1;cases e1
      exact .inl e2
     ·obtain ⟨more,z2⟩:=un.tbls b _ z
      have e1:s1.heap.get? b=some { cls:=.none,data:=.fields #[] }:=hok b _ z
      have e2:s'.heap.get? b=some { cls:=.none,data:=.fields (#[]++more) }:=hok' b _ z2
      rw[e] at e1;cases e1
      exact .inr (.inl ⟨(tabs b hT).2.1,rfl,#[],more,rfl,e2⟩)
 have tabOk:∀(H:Hp) (T:Addr),T∈ts->M9 P w H s1.heap T (.tbl #[]):=fun H T hT=>(tabs T hT).1
 cases hk:K.lookup a with
 | some o =>
  have e:=KX a o hk
  rw[ha] at e
  cases e
  refine core (fun b=>if b∈ts then some (.tbl #[]) else none) ⟨fun b=>?_,fun T hT=>if_pos hT⟩ (.inr ⟨_,vs.toArray,_,hk,rfl,rfl,rfl,by rw[q9,lenV];exact hl,by simpa using rv⟩) (fun b u z=>?_) (fun b z=>?_) fun z=>absurd (if_neg aT) z
  ·by_cases hb:b∈ts
   ·exact .inr (.inr ⟨hb,if_pos hb⟩)
   ·exact .inl (if_neg hb)
  ·by_cases hb:b∈ts
   ·have z':=(if_pos hb).symm.trans z
    cases z'
    exact tabOk _ b hb
   ·have z':=(if_neg hb).symm.trans z
    cases z'
  ·by_cases hb:b∈ts
   ·exact .inr hb
   ·exact absurd (if_neg hb) z
 | none =>
  refine core (fun b=>if b=a then some (.frz { cls:=.type "list",data:=.seq vs.toArray } (.lst (ns.map V.int))) else if b∈ts then some (.tbl #[]) else none) ⟨fun b=>?_,fun T hT=>?_⟩ (.inl (.inr ⟨{ cls:=.type "list",data:=.seq vs.toArray },if_pos rfl⟩)) (fun b u z=>?_) (fun b z=>?_) fun _=>hk
  ·by_cases hb:b=a
   ·exact .inr (.inl ⟨_,_,if_pos hb⟩)
   ·by_cases hc:b∈ts
    ·exact .inr (.inr ⟨hc,(if_neg hb).trans (if_pos hc)⟩)
    ·exact .inl ((if_neg hb).trans (if_neg hc))
  ·exact (if_neg (fun z=>aT (by rw[<- z];exact hT))).trans (if_pos hT)
  ·by_cases hb:b=a
   ·have z':=(if_pos hb).symm.trans z
    cases z'
    subst hb
    exact ⟨ha,by rw[d8];exact hl,vs,_,rv,ha⟩
   ·have z':=(if_neg hb).symm.trans z
    by_cases hc:b∈ts
    ·have z2:=(if_pos hc).symm.trans z'
     cases z2
     exact tabOk _ b hc
    ·have z2:=(if_neg hc).symm.trans z'
     cases z2
  ·by_cases hb:b=a
   ·exact .inl hb
   ·by_cases hc:b∈ts
    ·exact .inr hc
    ·exact absurd ((if_neg hb).trans (if_neg hc)) z
theorem Cr {l:JZ}{q:j7}{loose:List Str}{XP:(Str->Option b9)->Heap->Prop}{YP:u9->Heap->Prop}{d:DefRec}{K:Params->m6}{sp:u9->Sp}{ts:List Addr}
  (hn:l.most=some n) (hn2:n<=i0) (hdf:d.params.defaults=[]) (hr:cK k tj)
  (hY:∀(w:u9) (h:Heap),YP w h->(K w.params).In h) (hT:∀(w:u9) (h:Heap),YP w h->∀T∈ts,h.get? T=some (EY #[]))
  (F:∀(w:u9) (mg:Str->Option b9) (fa:Addr) (h:Heap),(K w.params).In h->h.Ns t8 mg->mg d.name=some (.ref fa) ->
   ∃fd:C5,(∀(s:d9) (u:b9),tF s fd ⟨[u],[]⟩ [(x,u)])/\(∀T∈ts,(K w.params).lookup T=none/\∃c,ke (K w.params) c T=true) /\
    ∀base:Heap,(K w.params).In base->base.Ns t8 mg->(∀T∈ts,base.BuiltinsAt mg T)->O5 l.prog w (K w.params) mg base dQ k fa fd [x] (sp w))
  (hsp:∀(w:u9) (H:Hp) (a:Addr) (ns:List Int),ns.length<=n->Ew ts H->dP (K w.params) H a (ns.map V.int)->sp w [.ref a] H (fun v _=>v=.bl true) fun _ _ _=>False):
  W.WalkO q loose XP YP l.row.toRowW d [] (fun f vs=>BV f vs):=by
 refine Att.wQ hn hdf fun w s₀ s₁ mg mb fa o pm cd doc a vs ns G Y ho hd hcd hmg hobj hints hlen hg=>?_
 have KX:=hY w _ Y
 obtain ⟨fd,hb,ht,hF⟩:=F w mg fa _ KX G.T.g hmg
 refine AR KX G.T.g G.T.b G.T.builtins G.T.nolimit hg G.T.bmain hobj hints (j0 hlen hn2) hr (fun T hm=>?_) hF hb (fun H hO hS=>hsp w H a ns hlen hO hS)
 obtain ⟨h1,c,h2⟩:=ht T hm
 have hP:=hT w _ Y T hm
 exact ⟨hP,((W.codeHd_of_K KX h2).tab hP).isCodeTable,h1⟩
structure iq (P:j7) (w:u9) (K:m6) (mg:Str->Option b9) (base:Heap) (k:Nat) (x:Str) (ps:List Str) (sp:Sp):Prop where
 ex:∃f fd,mg x=some (.ref f)/\cJ K (.ref f)=true/\jY K fd ps []/\O5 P w K mg base (lN P w) k f fd ps sp
theorem iq.up {j:Nat}(C:iq P w K mg base j x ps sp) (h:j<=k):iq P w K mg base k x ps sp :=
 let ⟨f,fd,a,b,c,d⟩:=C.ex;⟨f,fd,a,b,c,d.mono h⟩
noncomputable def tCx (sp:Sp) (E:XK) (t:TA):TE:=fun σ H Q=>t σ H fun vs H1=>sp vs H1 Q E
section
variable {X:Cx}{k:Nat}{x:Str}{ps:List Str}{sp:Sp}{p pos:Pos}{e:Expr}{es:List Expr}{t:TA}{E:XK}
theorem dh (C:iq X.prog X.w X.K X.mg X.base k x ps sp) (hr:cK k X.A) (hg:Gl X x) (hx:kG (lN X.prog X.w) X E) (ha:PA X (e::es) t)
  (hdb:(x == ("__debug__":Str))=false:=by decide) (he:A4 (e::es) X.env=(false,eval e X.env)::A4 es X.env:=by rfl) (hpl:(aW pos (A4 es X.env)).any (·.1)=false:=by rfl):
  PE X (.Call (.Name x p) (e::es) [] pos) (tCx sp E t):=by
 obtain ⟨f,fd,hm,hk,hb,F⟩:=C.ex
 have h:=zh (x:=x) (p:=p) (pos:=pos) F hr hg hm hk hb .nil hx ha hdb he hpl
 have e:Cy sp [] E t=tCx sp E t:=by
  funext σ H Q
  show t σ H (fun vs H1=>sp (vs++[]) H1 Q E)=t σ H (fun vs H1=>sp vs H1 Q E)
  congr 1
  funext vs H1
  rw[V5]
 rw[<- e];exact h
end
structure Bu (K:m6) (mg:Str->Option b9) (c:Nat->Addr) (B:Addr):Prop where
 e0:mg "NoUrn"=some (.ref (c 0))
 e1:mg "NoRule"=some (.ref (c 1))
 e2:mg "NoKind"=some (.ref (c 2))
 e3:mg "NoBall"=some (.ref (c 3))
 e4:mg "NoDraws"=some (.ref (c 4))
 e5:mg "NoNumber"=some (.ref (c 5))
 e6:mg "NotEven"=some (.ref (c 6))
 e7:mg "NoCounts"=some (.ref (c 7))
 e8:mg "NotAlike"=some (.ref (c 8))
 e9:mg "BadNote"=some (.ref (c 9))
 eb:mg "UrnError"=some (.ref B)
 xc:∀i,i<10->XC K (c i)
 xi:∀i,i<10->XI K (c i)
 sub:∀i,i<10->xx K (.ref (c i)) (.ref B)=some true
 bb:mZ K (.ref B) (.type "BaseException")=some true
 one:∀i j,i<10->j<10->cI K (.ref (c i)) (.ref (c j))=some (decide (i=j))
 val:∀i,i<10->cI K (.ref (c i)) (.type "ValueError")=some true
noncomputable def Sm (i:Int):Prop:=i.natAbs.log2<1920/\(toString i:Str).length<=100
section
variable {X:Cx}{pins:List (Addr × Obj)}{σ:St}{H:Hp}{s:d9}
theorem C8.bigger (I:C8 X pins σ H s):Y0<s.heap.objs.size:=by
 obtain ⟨mc,⟨o,es,ep,e,_⟩,_⟩:=I.nolimit
 exact B8 (by decide) (i5 e)
noncomputable def ah:R2:=fun x y H Q=>∃(a b:Addr) (xs ys:List V),x=.ref a/\y=.ref b/\H a=some (.tup xs)/\H b=some (.tup ys)/\xs.length+ys.length<=1000/\∀p H',i8 H H'->H' p=some (.tup (xs++ys))->Q (.ref p) H'
theorem jr:jQ X (Y2 .Add) ah:=by
 intro pins s σ H x y v u Q I rx ry h
 obtain ⟨a,b,xs,ys,rfl,rfl,ha,hb,hz,q⟩:=h
 refine FJ pins s σ H _ _ v u Q I rx ry ⟨a,b,xs,ys,rfl,rfl,.of ha,.of hb,j0 hz (by decide),fun e=>?_,fun _ e=>?_,fun _ _ p hp=>?_⟩
 ·subst e
  exact q b H (i8.refl H) hb
 ·subst e
  exact q a H (i8.refl H) (by rw[V5];exact ha)
 ·exact q p _ (i8.new hp) f9
end
section
variable {K:m6}{σ0:St}{te:TE}{H:Hp}{F:List V->Hp->Prop}
theorem wN {a:Addr}{xs:List V} (hn:xs.length<=i0) (Pv:Nat->List V->Hp->Prop) (h0:Pv 0 [] H) (hl:∀i ys H,Pv i ys H->ys.length=i) (hq:∀i ys H,i<=xs.length->Pv i ys H->dP K H a xs) (hσ:σ0[0]?=some none)
  (hs:∀i ys H x,xs[i]?=some x->Pv i ys H->te (σ0.set 0 (some x)) H fun y H'=>Pv (i+1) (ys++[y]) H') (hd:∀ys H,Pv xs.length ys H->F ys H):EA (JQ K a) σ0 (bC 0) X4 te H F:=by
 refine ⟨fun i m ys H=>m=xs.length - i/\i<=xs.length/\Pv i ys H,⟨xs.length,by simp,v8 _,h0⟩,?_⟩
 rintro i m ys H2 ⟨rfl,hi,p⟩
 have q:=hq i ys H2 hi p
 refine ⟨by rw[hl i ys H2 p];lia,?_⟩
 by_cases hlt:i<xs.length
 ·refine .inr ⟨⟨xs,xs[i],q,by simp[hlt]⟩,fun y H'=>Pv (i+1) (ys++[y]) H',fun _=>False,fun y H' q=>⟨xs.length - (i+1),by lia,rfl,hlt,q⟩,fun _ q=>q.elim,fun x H3 y=>?_⟩
  obtain ⟨rfl,y⟩:=y
  exact ⟨Wk.set (.inl hσ),hs i ys _ x (y xs q) p⟩
 ·have e:i=xs.length:=by lia
  subst e
  exact .inl ⟨⟨xs,q,i6 _⟩,hd ys H2 p⟩
end
section
variable {X:Cx}{es:List Expr}{te:TE}{t:TA}
theorem jM {c j p} (ha:PE X (.Constant c j p) te) (hr:PA X es t):PA X (.Constant c j p::es) (fi te t):=b8 ha hr rfl
theorem pa_b {a op b p} (ha:PE X (.BinOp a op b p) te) (hr:PA X es t):PA X (.BinOp a op b p::es) (fi te t):=b8 ha hr rfl
theorem qk {xs c p} (ha:PE X (.Tuple xs c p) te) (hr:PA X es t):PA X (.Tuple xs c p::es) (fi te t):=b8 ha hr rfl
theorem KW {xs p} (ha:PE X (.List xs p) te) (hr:PA X es t):PA X (.List xs p::es) (fi te t):=b8 ha hr rfl
theorem pa_d {ks vs p} (ha:PE X (.Dict ks vs p) te) (hr:PA X es t):PA X (.Dict ks vs p::es) (fi te t):=b8 ha hr rfl
end
noncomputable def uI:Expr->Option V
 | .Constant (.int i) _ _=>some (.int i)
 | .Constant (.bool b) _ _=>some (.bl b)
 | .Constant .none _ _=>some .non
 | .Constant (.str x) _ _=>some (.str x)
 | .UnaryOp .USub (.Constant (.int i) _ _) _=>some (.int (-i))
 | _=>none
noncomputable def eJ:List Expr->Option (List V)
 | []=>some []
 | e::es=>match uI e,eJ es with
  | some v,some vs=>some (v::vs)
  | _,_=>none
theorem Bh (h:uI e=some v):PE X e (tC v)/\∀es:List Expr,A4 (e::es) X.env=(false,eval e X.env)::A4 es X.env:=by
 unfold uI at h
 split at h
 ·cases h;exact ⟨i9,fun _=>rfl⟩
 ·cases h;exact ⟨bR,fun _=>rfl⟩
 ·cases h;exact ⟨kB,fun _=>rfl⟩
 ·cases h;exact ⟨mC,fun _=>rfl⟩
 ·cases h
  refine ⟨fun pins s σ H Q I q=>?_,fun _=>rfl⟩
  exact GH Cu i9 pins s σ H Q I ⟨_,rfl,q⟩
 ·cases h
theorem mD {X:Cx}{t:TA}:∀{es:List Expr}{vs:List V} (n:Nat),eJ (es.take n)=some vs->PA X (es.drop n) t->PA X es (fun σ H Q=>t σ H fun ws H1=>Q (vs++ws) H1)
 | es,vs,0,h,hr=>by
  have e:vs=[]:=by
   have h':eJ []=some vs:=by simpa using h
   cases h';rfl
  subst e
  exact hr
 | [],vs,n+1,h,hr=>by
  have e:vs=[]:=by
   have h':eJ []=some vs:=by simpa using h
   cases h';rfl
  subst e
  exact hr
 | e::es,vs,n+1,h,hr=>by
  have h':eJ (e::es.take n)=some vs:=by simpa using h
  unfold eJ at h'
  cases e1:uI e with
  | none=>rw[e1] at h';cases h'
  | some v =>
   cases e2:eJ (es.take n) with
   | none=>rw[e1,e2] at h';cases h'
   | some us =>
    rw[e1,e2] at h'
    cases h'
    obtain ⟨p1,p2⟩:=Bh (X:=X) e1
    have ih:=mD (es:=es) n e2 (by simpa using hr)
    exact b8 p1 ih (p2 es)
theorem mE {vs:List V} (h:eJ es=some vs):PA X es (fun _ H Q=>Q vs H):=by
 have z:=mD (X:=X) (es:=es) (vs:=vs) es.length (by rw[E2];exact h) (by rw[List.drop_length];exact f6)
 have e:(fun (σ:L2.St) (H:Hp) (Q:List V->Hp->Prop)=>pA σ H fun ws H1=>Q (vs++ws) H1)=fun _ H Q=>Q vs H:=by
  funext σ H Q
  show Q (vs++[]) H=Q vs H
  rw[V5]
 rw[<- e]
 exact z
theorem uh {a c:Expr}{xs:List Expr}{vs:List V}{ta tc:TE}{p1 p2 p3:Pos} (h:eJ xs=some vs) (ha:PE X a ta) (hc:PE X c tc) (hx:Aa c):
  PE X (.Subscript a (.Subscript (.List xs p1) c p2) p3) (gQ (Fv X.K) ta (gQ (Fv X.K) (Kr fun _ H Q=>Q vs H) tc)):=
 M7 W4 ha (M7 W4 (S3 (mE h)) hc hx) (fun _ _=>rfl)
structure xp (X:Cx):Prop where
 inj:∀x y c,X.env.cells.lookup x=some c->X.env.cells.lookup y=some c->x=y
 has:∀x,(X.env.kindOf x=some .cell ∨ X.env.kindOf x=some .free)->∃c,X.env.cells.lookup x=some c
theorem IB {t:TE} (h:PE X e t):PE X e (fun σ H Q=>xp X->t σ H Q):=fun pins s σ H Q I q=>h pins s σ H Q I (q ⟨I.ok.inj,I.ok.has⟩)
section
variable {X:Cx}{σ:L2.St}{H Hf:Hp}{scope:T5}
theorem xp.closed (Z:xp X) (hf:bO scope X.env=true):∀x∈scope.names,x.2=.free->∃c,X.env.cells.lookup x.1=some c:=fun x hx hk=>Z.has x.1 (ie hf hx hk)
theorem xp.sub (Z:xp X) (hf:bO scope X.env=true) {x:Str}{c:Addr} (h:(W9 X.env scope.names []).lookup x=some c):X.env.cells.lookup x=some c:=by
 obtain ⟨y,hm,e⟩:=dC h
 subst e
 rcases gC (Z.closed hf) hm with q|q
 ·cases q
 ·exact q
theorem xp.cel (Z:xp X) (hf:bO scope X.env=true) {b:Addr} (h:iA (W9 X.env scope.names []) b):iA X.env.cells b:=let ⟨x,e⟩:=h;⟨x,Z.sub hf e⟩
theorem xp.lsc (Z:xp X) (hf:bO scope X.env=true) (k1:scope.kind=.function) (k2:scope.isCoroutine=false) (k3:scope.isGenerator=false) (k4:∀x∈scope.names,x.2≠.cell):lL (W9 X.env scope.names []) scope :=
 ⟨k1,k2,k3,k4,fun x y c h1 h2=>Z.inj x y c (Z.sub hf h1) (Z.sub hf h2),fun x h=>by
  obtain ⟨y,hm,e⟩:=dC h
  subst e
  obtain ⟨c,hc⟩:=eV (env:=X.env) (acc:=[]) hm
  exact bB hc⟩
theorem xp.celk (Z:xp X) (hf:bO scope X.env=true) (fz:qR X σ H Hf):wW (W9 X.env scope.names []) Hf:=fun x c h=>fz.cell x c (Z.sub hf h)
theorem xp.st (Z:xp X) (hf:bO scope X.env=true) (fz:qR X σ H Hf) {N:List Str}{ix:List (Option Nat)} (hx:jj scope X.N N ix=true):Ex (W9 X.env scope.names []) scope N Hf (iP ix σ):=by
 refine ⟨by unfold iP;rw[d8];exact lr hx,fun j x v h1 h2=>?_⟩
 obtain ⟨i,h3,h4⟩:=vS h2
 obtain ⟨y,e1,e2,e3⟩:=lu hx h3
 rw[h1] at e1
 cases e1
 obtain ⟨y,hm,e⟩:=dC e3
 subst e
 obtain ⟨c,oc,u,c1,c2,c3,c4⟩:=fz.val i y v e2 h4 (ie hf hm rfl)
 obtain ⟨d,hd⟩:=eV (env:=X.env) (acc:=[]) hm
 obtain ⟨d',hd'⟩:=bB hd
 have z:=Z.sub hf hd'
 rw[c1] at z
 cases z
 exact ⟨e3,c,oc,u,hd',c2,c3,c4⟩
theorem qR.same (fz:qR X σ H Hf):i8 H Hf:=fun b o e=>by rw[fz.out b (fun z=>by rw[fz.none b z] at e;cases e)];exact e
theorem qR.inner (fz:qR X σ H Hf) (Z:xp X) (hf:bO scope X.env=true):i8 H (cU (W9 X.env scope.names []) Hf):=fun b o e=>by
 have nc:¬ iA X.env.cells b:=fun z=>by rw[fz.none b z] at e;cases e
 rw[P6 fun z=>nc (Z.cel hf z)]
 exact fz.same b o e
theorem qR.back (fz:qR X σ H Hf) {H':Hp} (g:i8 Hf H'):i8 H (cU X.env.cells H'):=fun b o e=>by
 have nc:¬ iA X.env.cells b:=fun z=>by rw[fz.none b z] at e;cases e
 rw[P6 nc]
 exact g b o (fz.same b o e)
end
theorem zk (g:i8 (cU cl H) H'):i8 H (xm cl H H'):=fun b o e=>by
 by_cases z:iA cl b
 ·rw[yc z];exact e
 ·rw[dm z];exact g b o (by rw[P6 z];exact e)
noncomputable def Kx (P:j7) (w:u9) (K:m6) (mg:Str->Option b9) (base:Heap) (k:Nat) (f c:Addr) (name qual:Str) (params:dH) (body:Expr) (scope:T5) (cl:List (Str × Addr)) (pm ct:b9) (N:List Str):Sp:=fun vs H Q E =>
 vs=[]/\H f=some (KN (Bx name qual params body scope cl pm c ct))/\Ac qual H c/\wW cl H/\∃σ,Ex cl scope N H σ /\
  ∀(A:A8) (outer:List Env) (s:d9),cK k (A.deeper (oS qual scope s.heap.objs.size f (.ref c) cl))->∃t,PE (sM P w K mg base N qual scope f (.ref c) cl A outer s (cU cl H) (fun C d H'=>E C d (xm cl H H'))) body t/\t σ (cU cl H) (fun v H'=>Q v (xm cl H H'))
variable {q:Str}
theorem kJ.kp {xs:List V} (h:kJ q T H) (hl:H l=some (.lst xs)) (k:Kp l H H'):kJ q T H':=by
 obtain ⟨ps,h1,h2,h3⟩:=h
 refine ⟨ps,k T _ (fun e=>by rw[e,hl] at h1;cases h1) h1,h2,fun pos v e=>?_⟩
 obtain ⟨c,oc,vs,t,e1,e2,e3,e4⟩:=h3 pos v e
 exact ⟨c,oc,vs,t,e1,k c _ (fun z=>by rw[z,hl] at e2;cases e2) e2,e3,e4⟩
theorem kJ.same (h:kJ q T H) (g:i8 H H'):kJ q T H':=by
 obtain ⟨ps,h1,h2,h3⟩:=h
 refine ⟨ps,g _ _ h1,h2,fun pos v e=>?_⟩
 obtain ⟨c,oc,vs,t,e1,e2,e3,e4⟩:=h3 pos v e
 exact ⟨c,oc,vs,t,e1,g _ _ e2,e3,e4⟩
theorem kJ.ne {xs:List V} (h:kJ q T H) (hl:H l=some (.lst xs)):T≠l:=by
 obtain ⟨ps,h1,_⟩:=h
 exact fun e=>by rw[e,hl] at h1;cases h1
theorem Dj {p pos:Pos}{t:TA} (C:W5 X.prog X.w X.K X.mg X.base k x ps sp) (hr:cK k X.A) (hg:Gl X x) (ha:PA X (e::es) t)
  (hfn:∀y,X.fn y=true:=by intro y;rfl) (hdb:(x == ("__debug__":Str))=false:=by decide) (he:A4 (e::es) X.env=(false,eval e X.env)::A4 es X.env:=by rfl) (hpl:(aW pos (A4 es X.env)).any (·.1)=false:=by rfl):
  PE X (.Call (.Name x p) (e::es) [] pos) (fun σ H Q=>xp X->Cw X sp t σ H Q):=by
 obtain ⟨f,fd,hm,hk,hb,F⟩:=C.ex
 exact IB (Dk F hr hg hm hk hb hfn ha hdb he hpl)
noncomputable def jm:A7->Bool
 | .list _=>true
 | .tuple _=>true
 | _=>false
section
variable {X:Cx}
noncomputable def GJ:A7->Bool
 | .none=>true
 | .int _=>true
 | .tuple _=>true
 | _=>false
end
section
variable {X:Cx}{scope:T5}{N:List Str}{ix:List (Option Nat)}{elt target iter:Expr}{ifs:List Expr}{pos:Pos}{wi:TI}{g:TG}{tc:TT}
end
section
variable {X:Cx}
noncomputable def tD1 (k v:Int):TE:=fun _ H Q=>∀p,H p=none->Q (.ref p) (n8 H p (.dK [(S0 k,.int v)]))
theorem KS {k v:Int}{j1 j2}{p1 p2 pos:Pos}:PE X (.Dict [some (.Constant (.int k) j1 p1)] [.Constant (.int v) j2 p2] pos) (tD1 k v):=by
 intro pins s σ H Q I h
 refine wpAny_Dict_pairs (knd:=U6 X.prog X.w) (pairs:=[(eval (.Constant (.int k) j1 p1) X.env,do let x <- eval (.Constant (.int v) j2 p2) X.env;standAt pos;pure x)]) rfl (by simp) (by simp) ?_
 refine evalPairs_cons (rA (b7 (rA (b7 (fJ (d6 (evalPairs_nil ?_)))))))
 refine ⟨[(S0 k,_)],⟨?_,rfl,trivial⟩,Heap.DictOf.new s.heap,fun h' dd hs=>?_⟩
 ·exact (by simp[nK,Am]:nK (S0 k) (.int k s.toks)=true)
 ·exact ⟨.ref s.heap.objs.size,_,I.laid (a:=s.heap.objs.size) (o:=.dK [(S0 k,.int v)]) (t':=_) (fun b u q=>(hs.2 b (n0 (i5 q))).trans (d7 _ q)) (i6 _)
   ⟨by show 1<=i0;decide,beq_eq_false_iff_ne.mpr (F6 (n0 I.bigger)),_,.cons ⟨rfl,⟨_,rfl⟩⟩ .nil,dd⟩,rfl,h _ (I.hok.fresh (i6 _))⟩
theorem ym (l:Addr) (items:Array b9) (n:Nat) (dd:Option Addr) (sl:Array (Option b9)) (t:Tok) (xs:Array b9) (k:Nat) (hk:k=5) (hm1:1<=items.size) (hm:items.size<=4) (hx:(u5 k items).foldl (·++·) #[]=xs) (hs:xs.size<=20):
  Hv (cg.«tuple.__mul__» ⟨[.ref l,.int (k:Int) t],[]⟩) (fun _ R s=>s.heap.get? l=some { cls:=.type "tuple",dict:=dd,data:=.seq items n,slots:=sl } /\
   R (.ok (.ret (.ref s.heap.objs.size))) { s with heap:=s.heap.push { cls:=.type "tuple",data:=.seq xs } }):=
 .of_wp fun prog w A R s h=>by
  obtain ⟨hp,g,d,tk,os⟩:=s;obtain ⟨hl,h⟩:=h
  wp_walk
  have hne:items.isEmpty=false:=by
   unfold Array.isEmpty
   exact decide_eq_false (by lia)
  rw[if_neg (by rw[hne,hk];decide)]
  wp_walk
  rw[if_neg (by
   rw[hk]
   have:items.size=1 ∨ items.size=2 ∨ items.size=3 ∨ items.size=4:=by lia
   rcases this with e|e|e|e <;> rw[e] <;> decide)]
  simp only[M3,hx]
  wp_walk
  have hz:¬ xs.size > i0:=by
   have z:20<i0:=by decide
   lia
  have hy:¬ Builtin.Tuple.tupleTooMany ((items.size:Int)*((k:Nat):Int))=true:=by
   rw[hk]
   have:items.size=1 ∨ items.size=2 ∨ items.size=3 ∨ items.size=4:=by lia
   rcases this with e|e|e|e <;> rw[e] <;> decide
  rw[if_neg hy]
  wp_walk
  exact ⟨_,rfl,h⟩
theorem Bb (xs:List b9):(u5 5 xs.toArray).foldl (·++·) #[]=(u5 5 xs).flatten.toArray:=by
 apply Array.toList_inj.mp
 simp[Z4]
noncomputable def KJ:R2:=fun x y H Q=>∃(a:Addr) (xs:List V),x=.ref a/\y=.int 5/\H a=some (.tup xs)/\1<=xs.length/\xs.length<=4/\∀p H',i8 H H'->H' p=some (.tup (u5 5 xs).flatten)->Q (.ref p) H'
theorem rY {xs:List V}{us:List b9} (r:K4 xs us):∀n:Nat,K4 (u5 n xs).flatten (u5 n us).flatten
 | 0=>.nil
 | n+1=>by rw[Z4,Z4,Fh,Fh];exact r.append (rY r n)
theorem FG:jQ X (Y2 .Mult) KJ:=by
 intro pins s σ H x y w' u Q I rx ry h
 obtain ⟨a,xs,rfl,rfl,ha,h1,h4,q⟩:=h
 cases rx
 obtain ⟨t,rfl⟩:=ry
 obtain ⟨its,r,p1,_⟩:=I.tuple (dI.of (K:=X.K) ha)
 obtain ⟨⟨cls,dd,data,sl⟩,ho,hc,n,hd⟩:=id p1
 simp only at hc hd
 subst hc hd
 have hl:=r.length
 refine Bv (T:="tuple") (U:="int") (by decide) ⟨_,ho,rfl⟩ (fun s'=>rB s' 5 t) gs LX kO kY F.slot_int_index.lookup
  (iJ kO (rB s 5 t) Kj (JG _ _) (pX 5 t a _ n dd sl) ⟨ho,rfl,⟨_,ho,rfl⟩,?_⟩)
 refine iJ tu ⟨_,ho,rfl⟩ rG (oX _ _) (ym a its.toArray n dd sl t _ 5 rfl (by rw[q9];lia) (by rw[q9];lia) (Bb its) (by rw[q9];simp[Z4];lia)) ⟨ho,?_⟩
 refine ⟨.ref s.heap.objs.size,_,I.laid (t':=s.toks) (o:=.tup (u5 5 xs).flatten) (fun b ob q=>d7 _ q) (i6 _) ?_,rfl,q _ _ (i8.new (I.hok.fresh (i6 _))) f9⟩
 have hz:(u5 5 xs).flatten.length<=i0:=by
  have z:20<=i0:=by decide
  refine j0 ?_ z
  simp[Z4];lia
 exact ⟨hz,_,rY r _,iL _ _⟩
end
section
variable (P:j7) (w:u9)
end
section
variable {P:j7}{w:u9}{H H':Hp}{h h':Heap}{a:Addr}{o:HO}
end
section
variable {P:j7}{w:u9}{H:Hp}{h h':Heap}{x e:Addr}{o':HO}
end
section
variable {fs fs' ex ex':List Addr}{H H1 H2:Hp}{h h1 h2 h':Heap}{a x e:Addr}{o:HO}
end
section
variable {X:Cx}{pins:List (Addr × Obj)}{σ:List (Option V)}{H H':Hp}{s:d9}{h':Heap}
end
section
variable {X:Cx}
variable {a b:Expr}{ta tb:TE}{pos:Pos}
variable {tA tB':TT}{jK:List Expr}
end
section
variable {X:Cx}{pins:List (Addr × Obj)}{σ:St}{H:Hp}{s:d9}{a:Addr}{xs ys:List V}
end
section
variable {X:Cx}{pins:List (Addr × Obj)}{σ:St}{H:Hp}{s:d9}{E:b9->d9->Prop}
end
section
variable {X:Cx}{st:Stmt}{jK:List Stmt}{t u:TS}{e:Expr}{te:TE}{pos:Pos}
end
section
variable {X:Cx}{pos:Pos}
end
section
variable {X:Cx}{tg:Expr}
end
section
variable {X:Cx}{a b c:Expr}{ta tb tc:TE}{pos:Pos}
end
section
variable {prog:j7}{w:u9}{A:A8}{E:b9->d9->Prop}{s:d9}{K:m6}{x dx C f:Addr}{mA:Str->Option b9}{name:Str}{v:b9}
end
section
variable {P:j7}{w:u9}{H H':Hp}{h h':Heap}{a C dx:Addr}{fs fs':List (Str × V)}
end
section
variable {X:Cx}{pins:List (Addr × Obj)}{σ:St}{H:Hp}{s:d9}{a C dx:Addr}{fs:List (Str × V)}{f:Str}{v:V}{A:A8}{E:b9->d9->Prop}
end
section
variable {X:Cx}{o e value:Expr}{f:Str}{pos pos' tpos:Pos}{ta tv:TE}
end
section
variable {X:Cx}{pins:List (Addr × Obj)}{σ:St}{H:Hp}{s:d9}{A:A8}{E:b9->d9->Prop}{Q:b9->d9->Prop}{c:b9}{b:Bool}
end
section
variable {X:Cx}{e:Expr}{es:List Expr}{te:TE}{t:TA}{pos:Pos}
end
section
variable {X:Cx}{pins:List (Addr × Obj)}{σ:St}{H:Hp}{s s':d9}
end
section
variable {X:Cx}{CX:Ad}{k:Nat}{f C:Addr}{fd:C5}{ps:List Str}{sp:Sp}{dvs:List V}{ds:List b9}{E:XK}{x m:Str}{p pos apos:Pos}{e o:Expr}{es:List Expr}{ta:TE}{t:TA}
end
section
variable {X:Cx}{CX:Ad}{k:Nat}{f C:Addr}{fd:C5}{ps ks:List Str}{sp:Sp}{E:XK}{x m:Str}{p pos apos kpos:Pos}{e o:Expr}{es:List Expr}{kws:List oq}{te ta:TE}{t tk:TA}{nm:Option Str}
variable {g:List b9->List b9->List b9}{gV:List V->List V->List V}
end
section
variable {X:Cx}{x:Str}{p pos:Pos}{e:Expr}{es:List Expr}{t:TA}{id T:String}{r:List V->Hp->VK->Prop}
end
section
variable {κ:Type} [DecidableEq κ]
noncomputable def me (kvs:List (κ × V)) (k:κ):Option V:=(kvs.find? fun kv=>decide (kv.1=k)).map (·.2)
noncomputable def jL (kvs:List (κ × V)) (k:κ) (v:V):List (κ × V):=
 if (kvs.any fun kv=>decide (kv.1=k))=true then kvs.map (fun kv=>if kv.1=k then (kv.1,v) else kv) else kvs++[(k,v)]
theorem iX {p:κ × V}{r:List (κ × V)}{k:κ} (e:p.1=k):me (p::r) k=some p.2:=by simp[me,bX,e]
theorem iY {p:κ × V}{r:List (κ × V)}{k:κ} (e:¬ p.1=k):me (p::r) k=me r k:=by simp[me,bX,e]
theorem vw (k:κ):∀kvs:List (κ × V),(kvs.any fun kv=>decide (kv.1=k))=(me kvs k).isSome
 | []=>rfl
 | p::r=>by
  rw[lV]
  by_cases e:p.1=k
  ·simp only[iX e,decide_eq_true e,yU,BB]
  ·rw[iY e,decide_eq_false e,xl];exact vw k r
theorem nJ (kvs:List (κ × V)) (k:κ) (v:V):(jL kvs k v).length<=kvs.length+1:=by
 unfold jL
 split
 ·rw[d8];lia
 ·rw[w9,m9,O0];lia
theorem mW.isSome_eq {o:Option V}{u:Option b9} (r:mW o u):o.isSome=u.isSome:=by
 cases o with
 | none=>cases u with
  | none=>rfl
  | some _=>exact (show False from r).elim
 | some _=>cases u with
  | none=>exact (show False from r).elim
  | some _=>rfl
theorem mW.getD {o:Option V}{u:Option b9}{d:V}{d':b9} (r:mW o u) (rd:K2 d d'):K2 (o.getD d) (u.getD d'):=by
 cases o with
 | none=>cases u with
  | none=>exact rd
  | some _=>exact (show False from r).elim
 | some _=>cases u with
  | none=>exact (show False from r).elim
  | some _=>exact r
variable {kvs:List (κ × V)}{vs:List (κ × b9)}
theorem KV.val (r:KV kvs vs) (k:κ):mW (me kvs k) (sV vs k):=by
 unfold KV at r
 induction r with
 | nil=>exact R6
 | @cons p q ps qs h t ih =>
  obtain ⟨h1,h2⟩:=h
  by_cases e:p.1=k
  ·have e':q.1=k:=h1.symm.trans e
   have b:sV (q::qs) k=some q.2:=by simp[sV,bX,e']
   rw[iX e,b];exact h2
  ·have e':¬ q.1=k:=fun z=>e (h1.trans z)
   have b:sV (q::qs) k=sV qs k:=by simp[sV,bX,e']
   rw[iY e,b];exact ih
theorem KV.any {kvs:List (κ × V)}{vs:List (κ × b9)} (r:KV kvs vs) (k:κ):(kvs.any fun kv=>decide (kv.1=k))=vs.any fun kv=>decide (kv.1=k):=by
 unfold KV at r
 induction r with
 | nil=>rfl
 | cons h t ih=>rw[lV,lV,ih,h.1]
theorem KV.repl (r:KV kvs vs) (k:κ) {y:V}{u:b9} (ry:K2 y u):
  KV (kvs.map fun kv=>if kv.1=k then (kv.1,y) else kv) (vs.map fun kv=>if kv.1=k then (kv.1,u) else kv):=by
 unfold KV at r ⊢
 induction r with
 | nil=>exact .nil
 | @cons p q ps qs h t ih =>
  rw[A9,A9]
  refine .cons ?_ ih
  obtain ⟨h1,h2⟩:=h
  by_cases e:p.1=k
  ·rw[if_pos e,if_pos (h1.symm.trans e)];exact ⟨h1,ry⟩
  ·rw[if_neg e,if_neg (fun z=>e (h1.trans z))];exact ⟨h1,h2⟩
theorem KV.put (r:KV kvs vs) (k:κ) {y:V}{u:b9} (ry:K2 y u):KV (jL kvs k y) (stored vs k u):=by
 unfold jL stored
 rw[r.any k]
 by_cases e:(vs.any fun kv=>decide (kv.1=k))=true
 ·rw[if_pos e,if_pos e];exact r.repl k ry
 ·rw[if_neg e,if_neg e];exact Kc r ⟨rfl,ry⟩
theorem KV.length {kvs:List (κ × V)}{vs:List (κ × b9)} (r:KV kvs vs):kvs.length=vs.length:=dM r
end
variable {u:b9}
theorem zA {k:S6}(r:K2 (kV k) u):(U6 P w).is k u=true:=by
 cases k with
 | inl i=>obtain ⟨t,e⟩:=(show ∃t,u=oU i t from r);subst e;exact wb P w i t
 | inr x=>obtain ⟨t,e⟩:=(show ∃t,u=xf x t from r);subst e;exact wa P w x t
theorem sE {P:j7}{w:u9}:∀{ks:List S6}{us:List b9},K4 (ks.map kV) us->ItemsAre (U6 P w) ks us
 | [],_,r=>by rw[yT] at r;cases r;exact .nil
 | k::ks,_,r=>by
  rw[A9] at r
  cases r with
  | cons h t=>exact .cons (zA h) (sE t)
noncomputable abbrev KT (H:Hp):List (List S6 × V)->List (List S6 × Addr × b9)->Prop:=Ao fun p q=>p.1=q.1/\H q.2.1=some (.tup (p.1.map kV))/\K2 p.2 q.2.2
variable {xs:List (List S6 × Addr × b9)}{kvs:List (List S6 × V)}
theorem KT.val (r:KT H kvs xs) (k:List S6):mW (me kvs k) ((Ak xs k).map (·.2)):=by
 induction r with
 | nil=>exact R6
 | @cons p q ps qs h t ih =>
  obtain ⟨h1,_,h2⟩:=h
  by_cases e:p.1=k
  ·have e':q.1=k:=h1.symm.trans e
   have b:Ak (q::qs) k=some q.2:=by simp[Ak,bX,e']
   rw[iX e,b];exact h2
  ·have e':¬ q.1=k:=fun z=>e (h1.trans z)
   have b:Ak (q::qs) k=Ak qs k:=by simp[Ak,bX,e']
   rw[iY e,b];exact ih
variable {y:V}
theorem KT.repl (r:KT H kvs xs) (k:List S6) (ry:K2 y u):
  KT H (kvs.map fun kv=>if kv.1=k then (kv.1,y) else kv) (xs.map (putAt k u)):=by
 induction r with
 | nil=>exact .nil
 | @cons p q ps qs h t ih =>
  rw[A9,A9]
  refine .cons ?_ ih
  obtain ⟨h1,h2,h3⟩:=h
  unfold putAt
  by_cases e:p.1=k
  ·rw[if_pos e,if_pos (h1.symm.trans e)];exact ⟨h1,h2,ry⟩
  ·rw[if_neg e,if_neg (fun z=>e (h1.trans z))];exact ⟨h1,h2,h3⟩
theorem KT.put (r:KT H kvs xs) (k:List S6) (hb:H b=some (.tup (k.map kV))) (ry:K2 y u):
  KT H (jL kvs k y) (storedH xs k b u):=by
 have e:(kvs.any fun kv=>decide (kv.1=k))=(Ak xs k).isSome:=by
  rw[vw,(r.val k).isSome_eq,Option.isSome_map]
 unfold jL storedH
 rw[e]
 by_cases q:(Ak xs k).isSome=true
 ·rw[if_pos q,if_pos q];exact r.repl k ry
 ·rw[if_neg q,if_neg q];exact Kc r ⟨rfl,hb,ry⟩
theorem KT.keeps (r:KT H kvs xs) (ht:∀b ys,H b=some (.tup ys)->H' b=some (.tup ys)):KT H' kvs xs :=
 Paired.mapP r fun _ _ z=>⟨z.1,ht _ _ z.2.1,z.2.2⟩
section
variable {P:j7}{w:u9}{H:Hp}{h:Heap}{a:Addr}
theorem GG {u:HO} (ok:cG P w H h) (e:Rd H a u):M9 P w H h a u:=e.ok ok
theorem wA {kvs:List (S6 × V)} (ok:cG P w H h) (e:Rd H a (.dK kvs)):kvs.length<=i0/\(a == Y0)=false/\∃vs,KV kvs vs/\h.DictOf (U6 P w) a vs :=
 show M9 P w H h a (.dK kvs) from GG ok e
theorem Ls {kvs:List (S6 × V)} (ok:cG P w H h) (e:H a=some (.dK kvs)):kvs.length<=i0/\(a == Y0)=false/\∃vs,KV kvs vs/\h.DictOf (U6 P w) a vs:=wA ok (.inl e)
theorem qF {ks:List S6} (ok:cG P w H h) (e:H a=some (.tup (ks.map kV))):(dE (U6 P w)).is h ks a:=by
 obtain ⟨_,its,r,o,h1,h2,n,h3⟩:=(show M9 P w H h a (.tup (ks.map kV)) from ok a _ e)
 exact ⟨o,its.toArray,n,h1,h2,h3,by simpa using sE r⟩
theorem wx {kvs:List (List S6 × V)} (ok:cG P w H h) (e:Rd H a (.dT kvs)):kvs.length<=i0/\(a == Y0)=false /\
  ∃xs,KT H kvs xs/\h.DictOfH (dE (U6 P w)) a xs:=by
 obtain ⟨z,y,xs,r,o,es,ep,h1,h2,h3,h4,h5⟩:=(show M9 P w H h a (.dT kvs) from GG ok e)
 refine ⟨z,y,xs,r,o,es,ep,h1,h2,h3,h4,fun x hx=>?_,h5⟩
 have all:∀{l:List (List S6 × V)}{m:List (List S6 × Addr × b9)},KT H l m->∀x∈m,(dE (U6 P w)).is h x.1 x.2.1:=by
  intro l m q
  induction q with
  | nil=>intro x hx;exact nomatch hx
  | @cons p q ps qs hq t ih =>
   intro x hx
   rcases List.mem_cons.mp hx with e|hx
   ·subst e
    exact qF ok (by rw[<- hq.1];exact hq.2.1)
   ·exact ih x hx
 exact all r x hx
theorem GQ {kvs:List (List S6 × V)} (ok:cG P w H h) (e:H a=some (.dT kvs)):kvs.length<=i0/\(a == Y0)=false /\
  ∃xs,KT H kvs xs/\h.DictOfH (dE (U6 P w)) a xs:=wx ok (.inl e)
end
noncomputable def rW (H:Hp) (a:Addr) (y:V) (r:Option V):Prop :=
 (∃kvs k,Rd H a (.dK kvs)/\y=kV k/\r=me kvs k) ∨ ∃kvs k b,Rd H a (.dT kvs)/\y=.ref b/\H b=some (.tup (k.map kV))/\r=me kvs k
noncomputable def yO (H:Hp) (a:Addr) (y v:V) (H':Hp):Prop :=
 (∃kvs k,H a=some (.dK kvs)/\y=kV k/\kvs.length<i0/\H'=n8 H a (.dK (jL kvs k v))) ∨
 ∃kvs k b,H a=some (.dT kvs)/\y=.ref b/\H b=some (.tup (k.map kV))/\kvs.length<i0/\H'=n8 H a (.dT (jL kvs k v))
theorem rW.t {k:List S6} (e:H a=some (.dT kvs)) (eb:H b=some (.tup (k.map kV))):rW H a (.ref b) (me kvs k):=.inr ⟨kvs,k,b,.inl e,rfl,eb,rfl⟩
theorem yO.t {k:List S6}(e:H a=some (.dT kvs)) (eb:H b=some (.tup (k.map kV))) (hl:kvs.length<i0):
  yO H a (.ref b) v (n8 H a (.dT (jL kvs k v))):=.inr ⟨kvs,k,b,e,rfl,eb,hl,rfl⟩
section
variable {X:Cx}{pins:List (Addr × Obj)}{σ:St}{H:Hp}{s:d9}{a:Addr}{y v:V}{u r:b9}{o:Option V}{A:A8}{E:b9->d9->Prop}
theorem C8.big (I:C8 X pins σ H s):Y0<s.heap.objs.size:=by
 have h:t8<s.heap.objs.size:=(I.mod.glob.keeps I.bk).lt
 exact Mu (by decide) h
theorem Bg {Q:b9->d9->Prop} (hu:A.units+1<fA) (I:C8 X pins σ H s) (g:rW H a y (some v)) (ry:K2 y u) (h:∀w' s',C8 X pins σ H s'->K2 v w'->Q w' s'):
  j6 (r6 X.prog X.w) A (jt (.ref a) u) Q E s:=by
 rcases g with ⟨kvs,k,e,ey,l⟩|⟨kvs,k,b,e,ey,eb,l⟩
 ·subst ey
  obtain ⟨z,hd,vs,rel,dd⟩:=wA I.hok e
  obtain ⟨w',hw,rw'⟩:=mW.some_of (v:=v) (o:=sV vs k) (by rw[l];exact rel.val k)
  exact wpAny_getItem_of (zA ry) dd.mapOf hw (h w' _ (I.tok _) rw')
 ·subst ey
  cases (show u=n5 b from ry)
  obtain ⟨z,hd,xs,rel,dd⟩:=wx I.hok e
  obtain ⟨w',hw,rw'⟩:=mW.some_of (v:=v) (o:=(Ak xs k).map (·.2)) (by rw[l];exact rel.val k)
  obtain ⟨p,hp,hp2⟩:=Option.map_eq_some_iff.mp hw
  refine wpAny_getItem_heap (rC hu) (qF I.hok eb) dd hp ?_
  rw[hp2]
  exact h w' _ (I.tok _) rw'
theorem uG {h':Heap}{t':Nat}{ob:HO} (I:C8 X pins σ H s) (mu:Lz (H a)) (hs:G2 a s.heap h') (he:∃q,h'.get? a=some q) (new:M9 X.prog X.w (n8 H a ob) h' a ob):
  C8 X pins σ (n8 H a ob) { s with heap:=h',toks:=t' } :=
 I.write (x:=a) (e:=a) mu (.inl rfl) (fun b q hb z=>(hs.2 b hb).trans z) he new
theorem Jh {P:j7}{w:u9}{H':Hp}{h':Heap}{kvs:List (S6 × V)}{vs:List (S6 × b9)} (z:kvs.length<=i0) (hd:(a == Y0)=false) (rel:KV kvs vs) (dd:h'.DictOf (U6 P w) a vs):
  M9 P w H' h' a (.dK kvs):=⟨z,hd,vs,rel,dd⟩
theorem Bf {H':Hp}{Q:Unit->d9->Prop} (hu:A.units+1<fA) (I:C8 X pins σ H s) (g:yO H a y v H') (ry:K2 y u) (rv:K2 v r) (h:∀s',C8 X pins σ H' s'->Q () s'):
  j6 (r6 X.prog X.w) A (setItem (.ref a) u r) Q E s:=by
 rcases g with ⟨kvs,k,e,ey,l,eH⟩|⟨kvs,k,b,e,ey,eb,l,eH⟩
 ·subst ey eH
  obtain ⟨z,hd,vs,rel,dd⟩:=Ls I.hok e
  have hz:vs.length<=i0:=by rw[<- rel.length];exact z
  have hl:(jL kvs k v).length<=i0:=by have:=nJ kvs k v;lia
  refine wpAny_setItem_pairs (hsz:=hz) (zA ry) dd fun h' dd' hs=>h _ ?_
  have he:∃q,h'.get? a=some q:=let ⟨q,_,_,hq,_⟩:=dd';⟨q,hq⟩
  exact uG I (by rw[e];exact R6) hs he (Jh hl hd (rel.put k rv) dd')
 ·subst ey eH
  cases (show u=n5 b from ry)
  obtain ⟨z,hd,xs,rel,dd⟩:=GQ I.hok e
  have hz:xs.length<=i0:=by rw[<- dM rel];exact z
  have hl:(jL kvs k v).length<=i0:=by have:=nJ kvs k v;lia
  refine wpAny_setItem_heap (hsz:=hz) (rC hu) (qF I.hok eb) dd fun h' dd' hs=>h _ ?_
  obtain ⟨q,es,ep,hq,h2,h3,h4,_,h5⟩:=dd'
  refine uG I (by rw[e];exact R6) hs ⟨q,hq⟩ ⟨hl,hd,_,(rel.put k eb rv).keeps fun c ys ec=>?_,q,es,ep,hq,h2,h3,h4,h5⟩
  rw[A1 (qx ec e (fun z=>nomatch z))]
  exact ec
end
section
variable {X:Cx}{pins:List (Addr × Obj)}{σ:St}{H:Hp}{s:d9}{a:Addr}{kvs:List (S6 × V)}{k:S6}{u:b9}{A:A8}{E:b9->d9->Prop}
end
noncomputable def Ly (i:Expr):Prop:=∀ov iv,wZ i false ov iv=operate [ov,iv] (jt ov iv)
theorem Ft {prog:j7}{value slice:Expr}{pos:Pos}{T id:String}{Q:b9->d9->Prop}
  (hl:JT (.type T) "__getitem__"=pure (some (.builtin id))) (hs:Ly slice)
  (h:j6 (r6 prog w) A (eval value env) (fun o s₁=>j6 (r6 prog w) A (eval slice env) (fun i s₂=>s₂.TypeIs o T/\j6 (r6 prog w) A (jt o i) Q E s₂) E s₁) E s):
  j6 (r6 prog w) A (eval (.Subscript value slice pos) env) Q E s:=by
 refine Ka (F5 h (fun o s₁ h₁=>F5 h₁ (fun i s₂ h₂=>?_) fun _ _ x=>x) fun _ _ x=>x)
 obtain ⟨hT,h₂⟩:=h₂
 unfold BM
 refine b7 ?_
 rw[getitemInPython_of_ne hT.not_modules]
 refine b7 (wpAny_specialOf hT hl ?_)
 have fin:j6 (r6 prog w) A (wZ slice false o i) (fun r s₃=>j6 (r6 prog w) A (letTemporaryGo value o r >>= fun _=>pure r) Q E s₃) E s₂:=by
  rw[hs o i]
  exact wpAny_operating (F5 h₂ (fun r s₃ h₃=>b7 (wpAny_letTemporaryGo (d6 h₃))) fun _ _ x=>x)
 first
  | exact d6 (b7 fin)
  | exact b7 (d6 (b7 fin))
  | exact b7 fin
theorem wB {o:Option V} (I:C8 X pins σ H s) (g:rW H a y o):s.TypeIs (.ref a) "dict":=by
 rcases g with ⟨kvs,k,e,_,_⟩|⟨kvs,k,b,e,_,_,_⟩
 ·obtain ⟨_,_,vs,_,dd⟩:=wA I.hok e
  exact dd.typeIs
 ·obtain ⟨_,_,xs,_,dd⟩:=wx I.hok e
  exact dd.typeIs
noncomputable def Ku (td ty:TE):TE:=fun σ H Q=>td σ H fun x H1=>ty σ H1 fun y H2=>∃a v,x=.ref a/\rW H2 a y (some v)/\Q v H2
noncomputable def KF (td ty tv:TE):TS:=fun D σ H=>tv σ H fun v H1=>td σ H1 fun x H2=>ty σ H2 fun y H3=>∃a H4,x=.ref a/\yO H3 a y v H4/\D.nx σ H4
section
variable {X:Cx}{o i e value:Expr}{pos pos' tpos:Pos}{td ty tv:TE}
theorem FC (hu:X.A.units+1<fA) (ho:PE X o td) (hi:PE X i ty) (hs:Ly i):PE X (.Subscript o i pos) (Ku td ty):=by
 intro pins s σ H Q I h
 refine Ft PySem.F.slot_dict_getitem.lookup hs (W8 (ho pins s σ H _ I h) fun u s1 ⟨x,H1,I1,rx,q1⟩=>W8 (hi pins s1 σ H1 _ I1 q1) fun iv s2 ⟨y,H2,I2,ry,a,v,ex,g,q2⟩=>?_)
 subst ex
 obtain rfl:u=n5 a:=rx
 exact ⟨wB I2 g,Bg hu I2 g ry fun w' s3 I3 rw'=>⟨v,H2,I3,rw',q2⟩⟩
theorem tZ (hu:X.A.units+1<fA) (ho:PE X o td) (hi:PE X i ty) (hv:PE X value tv) (hs:om value (some (.Subscript o i pos')) pos.line X.env=pure false):
  PS X (.Assign [.Subscript o i pos'] value pos) (KF td ty tv):=by
 intro pins s σ H D I h
 refine wpAny_Assign_Subscript (W8 (hv pins s σ H _ I h) fun r s1 ⟨v,H1,I1,rv,q1⟩=>W8 (ho pins s1 σ H1 _ I1 q1) fun u s2 ⟨x,H2,I2,rx,q2⟩=>W8 (hi pins s2 σ H2 _ I2 q2) fun iv s3 ⟨y,H3,I3,ry,a,H4,ex,g,q3⟩=>?_) hs
 subst ex
 obtain rfl:u=n5 a:=rx
 exact Bf hu I3 g ry rv fun s4 I4=>⟨σ,H4,I4,q3⟩
end
theorem wz (h:Heap) (hb:Y0<h.objs.size):M9 P w H (h.push { cls:=.type "dict",data:=.dict #[] }) h.objs.size (.dT []):=
 ⟨v8 _,beq_eq_false_iff_ne.mpr (F6 (n0 hb)),[],.nil,_,#[],0,j9 _ rfl,⟨rfl,rfl,rfl⟩,rfl,rfl,uU⟩
noncomputable def HV:TE:=fun _ H Q=>∀p,H p=none->Q (.ref p) (n8 H p (.dT []))
section
variable {X:Cx}{pos:Pos}
theorem qi:PE X (.Dict [] [] pos) HV:=fun pins s σ H Q I h =>
 wpAny_Dict_empty ⟨.ref s.heap.objs.size,_,I.laid (a:=s.heap.objs.size) (o:=.dT []) (t':=s.toks) (fun _ _ q=>d7 _ q) (i6 _) (wz s.heap I.big),rfl,h _ (I.hok.fresh (i6 _))⟩
end
structure M1 (X:Cx) (o:Expr) (m:Str) (apos:Pos) (e:Expr) (cpos:Pos):Prop where
 base:jF o m X.env (eval o X.env)=eval o X.env
 few:((aW cpos (A4 [e] X.env)).all (fun x=>!x.1)&&(backToKw cpos (Hn [] X.env)).all (fun x=>x.1.isSome)
  && decide (([e]:List Expr).length+([]:List oq).length+(if ([]:List oq).isEmpty then 0 else 1)<30))=true
 line:(apos.endLine == cpos.line)=true
 trees:aW cpos (A4 [e] X.env)=[(false,eval e X.env)]
structure M2 (X:Cx) (o:Expr) (m:Str) (apos:Pos) (e f:Expr) (cpos:Pos):Prop where
 base:jF o m X.env (eval o X.env)=eval o X.env
 few:((aW cpos (A4 [e,f] X.env)).all (fun x=>!x.1)&&(backToKw cpos (Hn [] X.env)).all (fun x=>x.1.isSome)
  && decide (([e,f]:List Expr).length+([]:List oq).length+(if ([]:List oq).isEmpty then 0 else 1)<30))=true
 line:(apos.endLine == cpos.line)=true
 trees:aW cpos (A4 [e,f] X.env)=[(false,eval e X.env),(false,eval f X.env)]
noncomputable def IsD (H:Hp) (a:Addr):Prop:=(∃kvs,Rd H a (.dK kvs)) ∨ ∃kvs,Rd H a (.dT kvs)
theorem Jb (I:C8 X pins σ H s) (d:IsD H a):
  s.TypeIs (.ref a) "dict"/\(∀b,n5 a=.ref b->∃ob,s.heap.get? b=some ob/\ob.dict=none)/\(a == Y0)=false:=by
 rcases d with ⟨kvs,e⟩|⟨kvs,e⟩
 ·obtain ⟨_,hd,vs,_,dd⟩:=wA I.hok e
  refine ⟨dd.typeIs,fun b q=>?_,hd⟩
  cases q
  obtain ⟨ob,_,_,h1,h2,_⟩:=dd
  exact ⟨ob,h1,h2.2.1⟩
 ·obtain ⟨_,hd,xs,_,dd⟩:=wx I.hok e
  refine ⟨dd.typeIs,fun b q=>?_,hd⟩
  cases q
  obtain ⟨ob,_,_,h1,h2,_⟩:=dd
  exact ⟨ob,h1,h2.2.1⟩
section
variable {X:Cx}{pins:List (Addr × Obj)}{σ:St}{H:Hp}{s:d9}{a:Addr}{y d:V}{u r:b9}{o:Option V}{A:A8}{E:b9->d9->Prop}
theorem Ji {Q:b9->d9->Prop} (hu:A.units+1<fA) (I:C8 X pins σ H s) (g:rW H a y o) (ry:K2 y u) (rd:K2 d r) (h:∀w' s',C8 X pins σ H s'->K2 (o.getD d) w'->Q w' s'):
  j6 (r6 X.prog X.w) A (call (.builtin "dict.get") [.ref a,u,r]) Q E s:=by
 rcases g with ⟨kvs,k,e,ey,l⟩|⟨kvs,k,b,e,ey,eb,l⟩
 ·subst ey
  obtain ⟨z,hd,vs,rel,dd⟩:=wA I.hok e
  refine EX iV dd.typeIs vi (uR _ _ _) (meets_dict_get_default (U6 X.prog X.w) a (zA ry) hd r) ⟨_,dd.mapOf,h _ _ (I.tok _) ?_⟩
  rw[l]
  exact (rel.val k).getD rd
 ·subst ey
  cases (show u=n5 b from ry)
  obtain ⟨z,hd,xs,rel,dd⟩:=wx I.hok e
  refine EX iV dd.typeIs vi (uR _ _ _) (meetsH_dict_get_default (dE (U6 X.prog X.w)) a b hd r) ⟨rC hu,k,xs,qF I.hok eb,dd,h _ _ (I.tok _) ?_⟩
  rw[l]
  exact (rel.val k).getD rd
end
noncomputable def HW (td ty tx:TE):TE:=fun σ H Q=>td σ H fun x H1=>∃a,x=.ref a/\IsD H1 a/\ty σ H1 fun y H2=>tx σ H2 fun z H3=>∃o,rW H3 a y o/\Q (o.getD z) H3
section
variable {X:Cx}{o e f:Expr}{apos cpos:Pos}{td ty tx:TE}
theorem qj (hu:X.A.units+1<fA) (ho:PE X o td) (he:PE X e ty) (hf:PE X f tx) (m:M2 X o "get" apos e f cpos):PE X (.Call (.Attribute o "get" apos) [e,f] [] cpos) (HW td ty tx):=by
 intro pins s σ H Q I h
 refine wpAny_Call_method m.base m.few m.line gN iV PySem.F.type_dict_get (W8 (ho pins s σ H _ I h) fun u s1 ⟨x,H1,I1,rx,a,ex,d,q1⟩=>?_)
 subst ex
 obtain rfl:u=n5 a:=rx
 obtain ⟨t1,t2,_⟩:=Jb I1 d
 refine ⟨t1,t2,?_⟩
 rw[m.trees]
 refine cP rfl (kg (lW (W8 (he pins s1 σ H1 _ I1 q1) fun iv s2 ⟨y,H2,I2,ry,q2⟩ =>
  lW (W8 (hf pins s2 σ H2 _ I2 q2) fun fv s3 ⟨z,H3,I3,rz,ov,g,q3⟩=>EM ?_))))
 exact Ji hu I3 g ry rz fun w' s4 I4 rw'=>⟨_,H3,I4,rw',q3⟩
end
section
variable {X:Cx}{pins:List (Addr × Obj)}{σ:St}{H:Hp}{s:d9}{a:Addr}{kvs:List (S6 × V)}{A:A8}{E:b9->d9->Prop}
end
section
variable {X:Cx}{pins:List (Addr × Obj)}{σ:St}{H:Hp}{s:d9}{a:Addr}{y:V}{u:b9}{A:A8}{E:b9->d9->Prop}
end
end L2
namespace Att
open PySem PySem.W PySem.Calls PyProof.Rows
section
variable {prog:j7}{w:u9}{A:A8}{E:b9->d9->Prop}{s:d9}{K:Frag}
end
end Att
namespace L2
open PySem PySem.Spec PyProof.Rows
section
variable {P:j7}{w:u9}{K:m6}{mg:Str->Option b9}{base:Heap}
end
section
variable {X:Cx}
end
section
variable {κ:Type} [DecidableEq κ]
end
section
variable {prog:j7}{w:u9}{A:A8}{E:b9->d9->Prop}{s:d9}
noncomputable abbrev Ec (it:Addr):Obj:={ cls:=.type "enumerate",data:=.fields #[.none,.bool false,.ref it,U9 0,.none,.none] }
theorem Be (t:Addr) (xs:Array b9):
  Hv (cg.«enumerate.__new__» ⟨[.type "enumerate",.ref t],[]⟩) (fun _ R s=>s.heap.IsTuple t xs/\R (.ok (.ret (.ref (s.heap.push (Km t)).objs.size))) { s with heap:=(s.heap.push (Km t)).push (Ec s.heap.objs.size) }):=
 .of_wp fun prog w A R s h=>by
  obtain ⟨hp,g,d,tk,os⟩:=s;obtain ⟨hl,h⟩:=h
  have hsub:=sub_enumerate
  have hL:LW (yP ⟨hp,g,d,tk,os⟩) t xs:=hl
  obtain ⟨ol,hol,_⟩:=id hl
  wp_walk using bH hol
  refine wpAny_stack_any fun st=>d6 ?_
  split
  ·rename_i c _ _ _ _ _
   cases (c == iU "enumerate")
   ·wp_walk using bH hol,aV hL
    exact ⟨_,rfl,h⟩
   ·wp_walk using bH hol,aV hL
    exact ⟨_,rfl,h⟩
  ·wp_walk using bH hol,aV hL
   exact ⟨_,rfl,h⟩
structure Me (h:Heap) (e it t:Addr) (k:Nat):Prop where
 en:∃old,Fi h e it k old
 it:h.IsTupleIter it t k
variable {xs:Array b9}
theorem Ed {e it t:Addr}{i:Nat}{x:b9}{Q:Option b9->d9->Prop} (Z:Me s.heap e it t i) (hl:s.heap.IsTuple t xs) (hx:xs[i]?=some x) (hne:e≠it)
  (hQ:∀h',Mw h' e it ((i:Int)+1) x s.heap.objs.size->h'.IsTupleIter it t (i+1)->h'.get? s.heap.objs.size=some { cls:=.type "tuple",data:=.seq #[.int i s.toks,x] }->h'.objs.size=s.heap.objs.size+1 ->
   (∀b o,b ∉ [e,it]->s.heap.get? b=some o->h'.get? b=some o)->Q (some (.ref s.heap.objs.size)) { s with heap:=h',toks:=s.toks+1 }):j6 (r6 prog w) A (Y1 (.ref e)) Q E s:=by
 obtain ⟨⟨old,he⟩,hit⟩:=Z
 obtain ⟨hp,g,d,tk,os⟩:=s
 have hT:dJ ⟨hp,g,d,tk,os⟩ (.ref e) "enumerate":=⟨_,he,rfl⟩
 unfold Y1
 refine b7 (Q2 (C0 (name:=P9 "__next__") hT eO (D5 eO hT Cg ?_ (BH _))))
 show j6 _ _ (qZ (.ref e) 2 >>= _) _ _ _
 refine b7 (C3 he rfl (x:=.ref it) rfl ?_)
 refine b7 (qv hit hl hx fun h1 hit1 s1=>?_)
 replace s1:G2 it hp h1:=s1
 have he1:Fi h1 e it i old:=(s1.2 e hne).trans he
 show j6 _ _ (qZ (.ref e) 3 >>= _) _ _ ⟨h1,g,d,tk,os⟩
 refine b7 (C3 he1 rfl (x:=U9 i) rfl ?_)
 show j6 _ _ (qZ (.ref e) 4 >>= _) _ _ ⟨h1,g,d,tk,os⟩
 refine b7 (C3 he1 rfl (x:=.none) rfl ?_)
 show j6 _ _ (mkInt i >>= _) _ _ ⟨h1,g,d,tk,os⟩
 refine b7 (wpAny_mkInt ?_)
 show j6 _ _ (iG (.ref e) 3 (U9 ((i:Int)+1)) >>= _) _ _ ⟨h1,g,d,tk+1,os⟩
 refine b7 (D4 he1 (by simp) fun h2 he2 s2=>?_)
 replace s2:G2 e h1 h2:=s2
 replace he2:Fi h2 e it ((i:Int)+1) old:=he2
 show j6 _ _ (iG (.ref e) 4 .none >>= _) _ _ ⟨h2,g,d,tk+1,os⟩
 refine b7 (D4 he2 (by simp) fun h3 he3 s3=>?_)
 replace s3:G2 e h2 h3:=s3
 replace he3:Fi h3 e it ((i:Int)+1) old:=he3
 show j6 _ _ (Af [.int i tk,x] >>= _) _ _ ⟨h3,g,d,tk+1,os⟩
 refine b7 (iB ?_)
 have he4:Fi (h3.push { cls:=.type "tuple",data:=.seq #[.int i tk,x] }) e it ((i:Int)+1) old:=d7 _ he3
 generalize hh4:h3.push { cls:=.type "tuple",data:=.seq #[.int i tk,x] }=h4 at he4
 have hsz:h3.objs.size=hp.objs.size:=by rw[s3.1,s2.1,s1.1]
 have hel:e<hp.objs.size:=i5 he
 have ht4:h4.get? hp.objs.size=some { cls:=.type "tuple",data:=.seq #[.int i tk,x] }:=by rw[<- hh4,<- hsz];exact j9 _ rfl
 have hz4:h4.objs.size=hp.objs.size+1:=by rw[<- hh4,D3,hsz]
 have hk4:∀b o,b≠e->b≠it->hp.get? b=some o->h4.get? b=some o:=fun b o hbe hbi hb=>by
  rw[<- hh4];exact d7 _ (s3.extBut b o hbe (s2.extBut b o hbe (s1.extBut b o hbi hb)))
 have hit4:h4.IsTupleIter it t (i+1):=by
  rw[<- hh4]
  exact hit1.at fun o e'=>d7 _ (s3.extBut _ o (F6 hne) (s2.extBut _ o (F6 hne) e'))
 show j6 _ _ (I0 (.ref e) >>= _) _ _ ⟨h4,g,d,tk+1,os⟩
 rw[hsz]
 clear hh4 he3 s3 he2 s2 he1 s1 hit1 hsz h3 h2 h1
 refine b7 ?_
 unfold I0
 refine b7 (C3 he4 rfl (x:=.none) rfl (d6 ?_))
 simp only[if_true]
 refine b7 (Q9 ?_)
 refine b7 (C3 he4 rfl (x:=old) rfl ?_)
 refine b7 (D4 he4 (by simp) fun h5 he5 s5=>?_)
 replace s5:G2 e h4 h5:=s5
 replace he5:Fi h5 e it ((i:Int)+1) x:=he5
 show j6 _ _ (S7 (.ref e) (.ref hp.objs.size) >>= _) _ _ ⟨h5,g,d,tk+1,os⟩
 refine b7 ?_
 unfold S7
 refine b7 (D4 he5 (by simp) fun h6 he6 s6=>?_)
 replace s6:G2 e h5 h6:=s6
 replace he6:Mw h6 e it ((i:Int)+1) x hp.objs.size:=he6
 refine D4 he6 (by simp) fun h7 he7 s7=>?_
 replace s7:G2 e h6 h7:=s7
 replace he7:Mw h7 e it ((i:Int)+1) x hp.objs.size:=he7
 refine b7 (wY (d6 ⟨_,rfl,d6 (hQ h7 he7 ?_ ?_ ?_ ?_)⟩))
 ·exact hit4.at fun o e'=>s7.extBut _ o (F6 hne) (s6.extBut _ o (F6 hne) (s5.extBut _ o (F6 hne) e'))
 ·exact s7.extBut _ _ (B9 hel) (s6.extBut _ _ (B9 hel) (s5.extBut _ _ (B9 hel) ht4))
 ·show h7.objs.size=hp.objs.size+1
  rw[s7.1,s6.1,s5.1,hz4]
 ·intro b o hb e'
  simp only[A0,y7,or_false,not_or] at hb
  exact s7.extBut b o hb.1 (s6.extBut b o hb.1 (s5.extBut b o hb.1 (hk4 b o hb.1 hb.2 e')))
theorem Gc {e it t:Addr}{i:Nat}{Q:Option b9->d9->Prop} (hh:A.handled=none) (Z:Me s.heap e it t i) (hl:s.heap.IsTuple t xs) (hx:xs[i]?=none)
  (hQ:∀h',eM it s.heap h'->Q none { s with heap:=h' }):j6 (r6 prog w) A (Y1 (.ref e)) Q E s:=by
 obtain ⟨⟨old,he⟩,hit⟩:=Z
 have hT:s.TypeIs (.ref e) "enumerate":=⟨_,he,rfl⟩
 unfold Y1
 refine b7 (Q2 (C0 (name:=P9 "__next__") hT eO (D5 eO hT Cg ?_ (BH _))))
 show j6 _ _ (qZ (.ref e) 2 >>= _) _ _ _
 refine b7 (C3 he rfl (x:=.ref it) rfl ?_)
 refine b7 (sy hh hit hl hx fun h' x he' hx'=>?_)
 obtain ⟨o,ho,hc⟩:=hx'
 exact b7 (fC (T:="StopIteration") (b:=true) ⟨o,ho,hc⟩ iH (d6 (hQ _ he')))
theorem yH {t:Addr}{Q:b9->d9->Prop} (hl:s.heap.IsTuple t xs)
  (h:∀h',Me h' (s.heap.objs.size+1) s.heap.objs.size t 0->(∀c o,s.heap.get? c=some o->h'.get? c=some o)->h'.objs.size=s.heap.objs.size+2->Q (.ref (s.heap.objs.size+1)) { s with heap:=h' }):
  j6 (r6 prog w) A (call (.type "enumerate") [.ref t]) Q E s:=by
 refine callType_new F.called_enumerate (by decide) (F.typeCall_enumerate_1 _) (F.newCall_enumerate_1 _) (fun obj=>F.args_object_init_2 obj _) F.entry_enumerate_new (Be t xs) ⟨hl,?_⟩
 simp only[D3]
 have e1:((s.heap.push (Km t)).push (Ec s.heap.objs.size)).get? (s.heap.objs.size+1)=some (Ec s.heap.objs.size):=by
  have:((s.heap.push (Km t)).push (Ec s.heap.objs.size)).get? (s.heap.push (Km t)).objs.size=some (Ec s.heap.objs.size):=j9 _ rfl
  rwa [D3] at this
 refine ⟨⟨_,e1,rfl⟩,h _ ⟨⟨_,e1⟩,⟨_,d7 _ (j9 _ rfl),rfl,rfl⟩⟩ (fun c o e=>d7 _ (d7 _ e)) (by simp only[D3])⟩
end
section
variable {X:Cx}{pins:List (Addr × Obj)}{σ:St}{H:Hp}{s:d9}
noncomputable def Ite (K:m6) (a:Addr):It :=
 ⟨fun i H=>∃xs x,dI K H a xs/\xs[i]?=some x,fun i H v H'=>∃p x,H p=none/\v=.ref p/\H'=n8 H p (.tup [.int i,x])/\∀xs,dI K H a xs->xs[i]?=some x,fun i H=>∃xs,dI K H a xs/\xs.length<=i⟩
theorem C8.yieldPair {h2:Heap}{t':Nat}{fp:List Addr}{x y:V}{u v:b9} (I:C8 X pins σ H s) (hf:∀b∈fp,oj X pins H b) (k2:∀c o,c ∉ fp->s.heap.get? c=some o->h2.get? c=some o)
  (e0:h2.get? s.heap.objs.size=some { cls:=.type "tuple",data:=.seq #[u,v] }) (ru:K2 x u) (rv:K2 y v):C8 X pins σ (n8 H s.heap.objs.size (.tup [x,y])) { s with heap:=h2,toks:=t' }:=by
 have hn:H s.heap.objs.size=none:=I.hok.fresh (i6 _)
 have pne:∀c o,s.heap.get? c=some o->c≠s.heap.objs.size:=fun c o e=>n0 (i5 e)
 have nit:∀c u,H c=some u->c ∉ fp:=fun c u e q=>by rw[(hf c q).1] at e;cases e
 have hok:cG X.prog X.w (n8 H s.heap.objs.size (.tup [x,y])) h2:=fun c ob e=>by
  by_cases hq:c=s.heap.objs.size
  ·subst hq
   rw[f9] at e;cases e
   exact ⟨by show 2<=i0;decide,[u,v],.cons ru (.cons rv .nil),⟨_,e0,rfl,_,rfl⟩⟩
  ·rw[A1 hq] at e
   refine (I.hok c ob e).stay (fun d w' hd q=>k2 d w' ?_ q) (fun d q=>by rw[A1 (v5 q hn)];exact q) fun d xs q=>by rw[A1 (v5 q hn)];exact q
   rcases hd with rfl|hd
   ·exact nit d ob e
   ·exact nit d _ hd
 refine I.step (g':=s.gens) (d':=s.drawn) (t':=t') (ch:=fp) (fun c hc=>⟨(hf c hc).2.2.2.1,(hf c hc).2.1,(hf c hc).2.2.2.2.1,(hf c hc).2.2.2.2.2⟩) (fun c o _ _ hc e _=>k2 c o hc e) (fun c o _ _ hc e _=>⟨o.slots,k2 c o hc e⟩)
  (fun c o _ e n=>by rw[A1 (pne c o e)];exact n) (fun c o hc e=>⟨o,k2 c o hc e⟩) (fun c xs e=>by rw[A1 (v5 e hn)];exact e) (fun c o u e=>by rw[A1 (v5 e hn)];exact e) (fun c ps e=>⟨#[],by rw[A1 (v5 e hn),e];simp⟩) (fun m hm=>?_) hok I.bare
 obtain ⟨o,es,ep,ho,r⟩:=hm
 exact ⟨o,es,ep,k2 _ o (fun q=>(hf _ q).2.1 rfl) ho,r⟩
theorem xE {P:j7}{w:u9}{K:m6}{es:List Expr}{kk:Nat}{pos:Pos}{a e it:Addr} (hne:e≠it):
  rS P w K (.Tuple es kk pos) (Ite K a) [e,it] e (fun i h=>Me h e it a i) where
 mem:=by simp
 obj:=fun i h st c hc=>by
  obtain ⟨⟨_,he⟩,⟨_,h1,_,d1⟩⟩:=st
  simp only[A0,y7,or_false] at hc
  rcases hc with rfl|rfl
  ·exact ⟨_,he,fun v q=>by cases q⟩
  ·exact ⟨_,h1,fun v q=>by rw[d1] at q;cases q⟩
 keep:=fun i h h' st k=>⟨let ⟨old,he⟩:=st.en;⟨old,k _ (by simp) _ he⟩,st.it.at fun o e=>k _ (by simp) o e⟩
 item:=by
  intro X hP hw hK hc i pins s σ H E I hf st hg
  subst hP hw hK
  obtain ⟨xs,x,ha,hx⟩:=hg
  obtain ⟨its,r1,p1,_⟩:=I.tuple ha
  obtain ⟨u,hu,ru⟩:=r1.get hx
  refine Ed st (show s.heap.IsTuple a its.toArray from p1) (x:=u) (by simpa using hu) hne fun h' z1 j1 new sz keep=>?_
  refine ⟨_,rfl,wpAny_letOwnedTupleGo_enum (s:={ s with heap:=h',toks:=s.toks+1 }) z1 fun h2 z2 sb=>?_⟩
  have elt:e<s.heap.objs.size:=let ⟨_,he⟩:=st.en;i5 he
  have ilt:it<s.heap.objs.size:=let ⟨_,h1,_⟩:=st.it;i5 h1
  have k2:∀c o,c ∉ [e,it]->s.heap.get? c=some o->h2.get? c=some o:=fun c o hc q=>sb.extBut _ _ (fun z=>hc (by simp[z])) (keep c o hc q)
  have e0:h2.get? s.heap.objs.size=some { cls:=.type "tuple",data:=.seq #[.int i s.toks,u] }:=sb.extBut _ _ (B9 elt) new
  have hn:H s.heap.objs.size=none:=I.hok.fresh (i6 _)
  refine ⟨.ref s.heap.objs.size,_,I.yieldPair (t':=s.toks+1) (x:=.int i) (y:=x) hf k2 e0 ⟨_,rfl⟩ ru,rfl,⟨_,x,hn,rfl,rfl,fun xs' h'=>by rw[I.tuple_inj h' ha];exact hx⟩,?_,fun c hc=>?_⟩
  ·refine ⟨⟨u,?_⟩,j1.at fun o e'=>sb.extBut _ o (F6 hne) e'⟩
   have e1:((i+1:Nat):Int)=(i:Int)+1:=by lia
   rw[e1];exact z2
  ·have hlt:c<s.heap.objs.size:=by
    simp only[A0,y7,or_false] at hc
    rcases hc with rfl|rfl
    ·exact elt
    ·exact ilt
   rw[A1 (n0 hlt)]
   exact (hf c hc).1
 done:=by
  intro X hP hw hK hc i pins s σ H E I hf st hg
  subst hP hw hK
  obtain ⟨xs,ha,hx⟩:=hg
  obtain ⟨its,r1,p1,_⟩:=I.tuple ha
  have hl:=r1.length
  refine Gc (I.ok.hd hc) st (show s.heap.IsTuple a its.toArray from p1) (by simp;lia) fun h' keep=>⟨rfl,I.turnedL (t':=s.toks) (ch:=[e,it]) (fun c o hc e=>keep c o (fun q=>hc (by simp[q])) e) hf⟩
 self:=fun _ _ _ _ _ st h=>let ⟨_,he⟩:=st.en;LO he h
theorem Bn:X1 "enumerate"=some (.type "enumerate"):=by decide +kernel
noncomputable def Ln (K:m6) (ta:TA):TI:=fun σ H R=>ta σ H fun vs H1=>∃a xs,vs=[.ref a]/\dI K H1 a xs/\R (Ite K a) H1
theorem Df {e1:Expr}{es:List Expr}{kk:Nat}{pt p pos:Pos}{ta:TA} (hg:Gl X "enumerate") (hm:X.mg "enumerate"=none) (ha:PA X [e1] ta) (hs:A4 [e1] X.env=[(false,eval e1 X.env)]:=by rfl):
  PI X (.Tuple es kk pt) (.Call (.Name "enumerate" p) [e1] [] pos) (Ln X.K ta):=by
 intro pins s σ H R I h
 refine Call_ (mJ I hg hm Bn (af (W8 (ha pos pins s σ H _ I h) fun us s1 ⟨vs,H1,I1,r1,q1⟩=>?_) (by rw[hs];rfl) (by rfl)))
 obtain ⟨a,xs,rfl,hx,q⟩:=q1
 cases r1 with
 | cons ra rr =>
  cases rr
  cases ra
  obtain ⟨its,r1,p1,_⟩:=I1.tuple hx
  refine yH (show s1.heap.IsTuple a its.toArray from p1) fun h' Z keep sz=>?_
  obtain ⟨old,he⟩:=id Z.en
  refine LO (s:={ s1 with heap:=h' }) he ?_
  have I2:C8 X pins σ H1 { s1 with heap:=h' }:=I1.kept (t':=s1.toks) keep
  refine ⟨s1.heap.objs.size+1,[s1.heap.objs.size+1,s1.heap.objs.size],_,_,H1,rfl,I2,xE (by show s1.heap.objs.size+1≠s1.heap.objs.size;lia),Z,fun c hc=>?_,q⟩
  have hge:s1.heap.objs.size<=c:=by
   simp only[A0,y7,or_false] at hc
   rcases hc with rfl|rfl <;> first|exact E6 _ _|exact i6 _
  exact I1.fpOk hge (I1.hok.fresh hge)
end
section
variable {prog:j7}{w:u9}{A:A8}{E:b9->d9->Prop}{s:d9}
variable {d:Addr}{Q:b9->d9->Prop}
theorem qI (hd:(d == Y0)=false) (hT:s.TypeIs (.ref d) "dict") (h:Q (.ref s.heap.objs.size) { s with heap:=s.heap.push { cls:=.type "dict_items",data:=.fields #[.ref d] } }):
  j6 (r6 prog w) A (call (.builtin "dict.items") [.ref d]) Q E s:=by
 have g:MeetsIn prog w (cg.«dict.items» ⟨[.ref d],[]⟩) (fun _ R s=>s.TypeIs (.ref d) "dict"/\R (.ok (.ret (.ref s.heap.objs.size))) { s with heap:=s.heap.push { cls:=.type "dict_items",data:=.fields #[.ref d] } }):=
  .of_wp fun A R s ⟨hm,h⟩=>by
   unfold cg.«dict.items»
   refine b7 ?_
   unfold Builtin.Dict.noArgs
   refine b7 (Gn hm ?_)
   show j6 _ _ (pure d) _ _ s
   refine d6 ?_
   show j6 _ _ (cf d >>= _) _ _ s
   unfold cf
   rw[if_neg (by rw[hd];exact t7)]
   refine b7 (d6 ?_)
   exact b7 (B6 (d6 ⟨_,rfl,h⟩))
 exact EX gM hT PySem.F.entry_dict_items (PySem.F.args_dict_items_1 _) g ⟨hT,h⟩
variable {od:Obj}{es:Array M4}{ep:Nat}
theorem nM {v:Addr}(hv:s.heap.IsItemsView v d) (ho:s.heap.get? d=some od) (hdat:od.data=.dict es ep)
  (hQ:Q (.ref s.heap.objs.size) { s with heap:=s.heap.push { cls:=.type "dict_itemiterator",data:=.fields #[.none,.bool false,.ref d,.int 0 0,.int es.size 0,.int ep 0,.none,.none] } }):
  j6 (r6 prog w) A (nW (.ref v)) Q E s:=by
 obtain ⟨ov,hov,hcv,hdv⟩:=id hv
 refine sT hv.typeIs Cf (D5 Cf hv.typeIs F.entry_dict_items_iter ?_ (F.args_dict_items_iter_1 _))
 unfold cg.«dict_items.__iter__»
 refine b7 (d6 ?_)
 refine b7 ?_
 unfold Builtin.Dict_items.dictOf
 refine b7 (C3 hov hdv (x:=.ref d) rfl (d6 ?_))
 refine b7 ?_
 unfold Builtin.Dict_items.newIterator
 refine b7 (W1 ho hdat ?_)
 refine b7 (Z1 ho hdat ?_)
 have hown:J8 "dict_itemiterator"=true:=by decide
 simp only[hown,if_true]
 refine B6 (d6 ⟨_,rfl,"dict_itemiterator",_,⟨_,j9 _ rfl,rfl⟩,F.slot_dict_itemiterator_next.lookup,?_⟩)
  (by simp only[sizeOk,fZ,q9,w9,m9,O0,X6];lia)
 simpa [U9,fZ] using hQ
variable {it:Addr}{i:Nat}{ov:b9}
theorem nN {en:M4}{ok:b9}{Q:Option b9->d9->Prop} (hit:bU s.heap it d i es.size ep ok ov)
  (hod:s.heap.get? d=some od) (hdd:od.data=.dict es ep) (hx:es[i]?=some en)
  (hQ:∀h',Cd h' it d (i+1) es.size ep en.key en.val s.heap.objs.size->h'.get? s.heap.objs.size=some { cls:=.type "tuple",data:=.seq #[en.key,en.val] }->h'.objs.size=s.heap.objs.size+1 ->
   (∀b o,b≠it->s.heap.get? b=some o->h'.get? b=some o)->Q (some (.ref s.heap.objs.size)) { s with heap:=h' }):j6 (r6 prog w) A (Y1 (.ref it)) Q E s:=by
 obtain ⟨hp,g,dr,tk,os⟩:=s
 have hT:dJ ⟨hp,g,dr,tk,os⟩ (.ref it) "dict_itemiterator":=⟨_,hit,rfl⟩
 unfold Y1
 refine b7 (Q2 (C0 (name:=P9 "__next__") hT G4
  (D5 G4 hT aq ?_ (aa _))))
 refine b7 (d6 ?_)
 refine b7 ?_
 refine b7 ?_
 first|refine b7 (G0 hT (d6 ?_))|refine b7 (K7 hT (d6 ?_))
 refine b7 (aA hit rfl ?_)
 have hown:J8 "dict_itemiterator"=true:=by decide
 simp only[hown,if_true]
 show j6 _ _ (if (n5 d == B5)=true then _ else _) _ _ _
 rw[if_neg (show ¬ ((n5 d == B5)=true) from t7)]
 refine b7 (d6 ?_)
 refine b7 (W1 hod hdd ?_)
 rw[if_neg (by simp)]
 refine b7 (d6 ?_)
 refine b7 (Z1 hod hdd ?_)
 rw[if_neg (by simp)]
 refine d6 ?_
 obtain ⟨hlt',hen⟩:=Array.getElem?_eq_some_iff.mp hx
 simp only[show ¬ ((i:Int)<0) from by lia,if_false,M3,hx]
 refine b7 ?_
 first|refine b7 (G0 hT (d6 ?_))|refine b7 (K7 hT (d6 ?_))
 refine b7 (S9 hT ?_)
 show j6 _ _ (iG (.ref it) 3 (U9 ((i:Int)+1)) >>= _) _ _ ⟨hp,g,dr,tk,os⟩
 refine b7 (D4 hit (by simp) fun h1 he1 s1=>?_)
 replace s1:G2 it hp h1:=s1
 replace he1:bU h1 it d (i+1) es.size ep ok ov:=by
  have e:((i+1:Nat):Int)=(i:Int)+1:=by lia
  unfold bU;rw[e];simpa [U9] using he1
 have hT1:dJ ⟨h1,g,dr,tk,os⟩ (.ref it) "dict_itemiterator":=⟨_,he1,rfl⟩
 refine b7 (L8 ?_)
 refine b7 (S9 hT1 ?_)
 refine b7 (S9 hT1 ?_)
 show j6 _ _ (V6 (.ref it) 6 en.key en.val) _ _ ⟨h1,g,dr,tk,os⟩
 unfold V6
 refine b7 (iB ?_)
 have he2:bU (h1.push { cls:=.type "tuple",data:=.seq #[en.key,en.val] }) it d (i+1) es.size ep ok ov:=d7 _ he1
 generalize hh2:h1.push { cls:=.type "tuple",data:=.seq #[en.key,en.val] }=h2 at he2
 have hz1:h1.objs.size=hp.objs.size:=s1.1
 have hil:it<hp.objs.size:=i5 hit
 have ht2:h2.get? hp.objs.size=some { cls:=.type "tuple",data:=.seq #[en.key,en.val] }:=by rw[<- hh2,<- hz1];exact j9 _ rfl
 have hz2:h2.objs.size=hp.objs.size+1:=by rw[<- hh2,D3,hz1]
 have hk2:∀b o,b≠it->hp.get? b=some o->h2.get? b=some o:=fun b o hb e=>by rw[<- hh2];exact d7 _ (s1.extBut b o hb e)
 show j6 _ _ (T8 (.ref it) >>= _) _ _ ⟨h2,g,dr,tk,os⟩
 rw[hz1]
 clear hh2 he1 s1 hT1 hz1 h1
 refine b7 ?_
 unfold T8
 refine b7 (C3 he2 rfl (x:=.none) rfl (d6 ?_))
 simp only[if_true]
 refine b7 (C3 he2 rfl (x:=ok) rfl ?_)
 refine b7 (C3 he2 rfl (x:=ov) rfl ?_)
 refine b7 (D4 he2 (by simp) fun h3 he3 s3=>?_)
 replace s3:G2 it h2 h3:=s3
 replace he3:bU h3 it d (i+1) es.size ep en.key ov:=he3
 refine b7 (D4 he3 (by simp) fun h4 he4 s4=>?_)
 replace s4:G2 it h3 h4:=s4
 replace he4:bU h4 it d (i+1) es.size ep en.key en.val:=he4
 refine b7 (D4 he4 (by simp) fun h5 he5 s5=>?_)
 replace s5:G2 it h4 h5:=s5
 replace he5:Cd h5 it d (i+1) es.size ep en.key en.val hp.objs.size:=he5
 refine b7 (D4 he5 (by simp) fun h6 he6 s6=>?_)
 replace s6:G2 it h5 h6:=s6
 replace he6:Cd h6 it d (i+1) es.size ep en.key en.val hp.objs.size:=he6
 refine b7 (wY (d6 (d6 ⟨_,rfl,d6 (hQ h6 he6 ?_ ?_ ?_)⟩)))
 ·exact s6.extBut _ _ (B9 hil) (s5.extBut _ _ (B9 hil) (s4.extBut _ _ (B9 hil) (s3.extBut _ _ (B9 hil) ht2)))
 ·show h6.objs.size=hp.objs.size+1
  rw[s6.1,s5.1,s4.1,s3.1,hz2]
 ·exact fun b o hb e=>s6.extBut b o hb (s5.extBut b o hb (s4.extBut b o hb (s3.extBut b o hb (hk2 b o hb e))))
theorem qJ {ok:b9}{Q:Option b9->d9->Prop} (hh:A.handled=none) (hit:bU s.heap it d i es.size ep ok ov)
  (hod:s.heap.get? d=some od) (hdd:od.data=.dict es ep) (hge:es.size<=i) (hQ:∀h',eM it s.heap h'->Q none { s with heap:=h' }):j6 (r6 prog w) A (Y1 (.ref it)) Q E s:=by
 have hT:s.TypeIs (.ref it) "dict_itemiterator":=⟨_,hit,rfl⟩
 unfold Y1
 refine b7 (Q2 (C0 (name:=P9 "__next__") hT G4
  (D5 G4 hT aq ?_ (aa _))))
 refine b7 (d6 ?_)
 refine b7 ?_
 refine b7 ?_
 first|refine b7 (G0 hT (d6 ?_))|refine b7 (K7 hT (d6 ?_))
 refine b7 (aA hit rfl ?_)
 have hown:J8 "dict_itemiterator"=true:=by decide
 simp only[hown,if_true]
 show j6 _ _ (if (n5 d == B5)=true then _ else _) _ _ s
 rw[if_neg (show ¬ ((n5 d == B5)=true) from t7)]
 refine b7 (d6 ?_)
 refine b7 (W1 hod hdd ?_)
 rw[if_neg (by simp)]
 refine b7 (d6 ?_)
 refine b7 (Z1 hod hdd ?_)
 rw[if_neg (by simp)]
 refine d6 ?_
 simp only[show ¬ ((i:Int)<0) from by lia,if_false,M3,iW hge]
 refine b7 ?_
 first|refine b7 (G0 hT (d6 ?_))|refine b7 (K7 hT (d6 ?_))
 show j6 _ _ (iG (.ref it) 2 .none >>= _) _ _ s
 refine b7 (X9 hit rfl (by simp) ?_)
 show j6 _ _ (vh (.type "StopIteration") [] >>= _) _ _ _
 refine b7 ?_
 simp only[vh,Af]
 refine b7 (B6 ?_ (by size_fits))
 refine b7 (m:=aB _ _) (nV (a:=B5) (by first|rfl | (simp only[aB];rfl)) ?_)
 refine B6 ?_ (by size_fits)
 simp only[GZ]
 refine b7 (qW ?_)
 rw[show A.in1.handled=none from hh]
 refine b7 (d6 (wX ?_))
 refine b7 (fC (T:="StopIteration") (b:=true) ⟨_,j9 _ rfl,rfl⟩ iH ?_)
 exact d6 (hQ _ (((Q5 ..).extBut.push _).push _))
theorem jN:entryFor table "dict_itemiterator.__iter__"=some cg.«dict_keyiterator.__iter__»:=entryFor_alias (id':="dict_keyiterator.__iter__") (by kernel_rfl) rfl (by decide +kernel) (by kernel_rfl)
theorem rO {n:Nat}{ok:b9}(h:bU s.heap it d i n ep ok ov) (q:Q (.ref it) s):j6 (r6 prog w) A (nW (.ref it)) Q E s:=by
 have hT:s.TypeIs (.ref it) "dict_itemiterator":=⟨_,h,rfl⟩
 refine sT hT uV (D5 uV hT jN ?_ (F.args_dict_itemiterator_iter_1 _))
 exact d6 ⟨_,rfl,"dict_itemiterator",_,hT,F.slot_dict_itemiterator_next.lookup,q⟩
end
section
variable {X:Cx}{pins:List (Addr × Obj)}{σ:St}{H:Hp}{s:d9}
noncomputable def LG (d:Addr) (o:Obj) (kvs:List (List S6 × V)):It :=
 ⟨fun i H=>H d=some (.frz o (.dT kvs))/\i<kvs.length,fun i H v H'=>∃p ka k x,H p=none/\v=.ref p/\H'=n8 H p (.tup [.ref ka,x])/\kvs[i]?=some (k,x)/\H ka=some (.tup (k.map kV)),fun i H=>H d=some (.frz o (.dT kvs))/\kvs.length<=i⟩
theorem Paired.get {α β:Type}{F:α->β->Prop}:∀{l:List α}{m:List β}{i:Nat}{a:α},Ao F l m->l[i]?=some a->∃b,m[i]?=some b/\F a b
 | _::_,_::_,0,_,.cons r _,h=>by cases h;exact ⟨_,rfl,r⟩
 | _::_,_::_,i+1,_,.cons _ t,h=>by
  obtain ⟨b,e,r⟩:=Paired.get (i:=i) t (by simpa using h)
  exact ⟨b,by simpa using e,r⟩
variable {d:Addr}{kvs:List (List S6 × V)}
theorem C8.frzT {o:Obj}{es:Array M4}{ep:Nat} (I:C8 X pins σ H s) (e:H d=some (.frz o (.dT kvs))) (hd:o.data=.dict es ep):
  s.heap.get? d=some o/\es.size=kvs.length/\∀(i:Nat) (k:List S6) (x:V),kvs[i]?=some (k,x)->∃(ka:Addr) (u:b9) (en:M4),es[i]?=some en/\en.key=.ref ka/\en.val=u/\H ka=some (.tup (k.map kV))/\K2 x u:=by
 obtain ⟨h1,_,_,xs,r,o',es',ep',h2,_,h3,h4,_⟩:=(show M9 X.prog X.w H s.heap d (.frz o (.dT kvs)) from I.hok d _ e)
 rw[h1] at h2
 cases h2
 rw[hd] at h3
 cases h3
 have hl:es.size=kvs.length:=by
  rw[<- D9,h4,d8];exact (dM r).symm
 refine ⟨h1,hl,fun i k x hx=>?_⟩
 obtain ⟨q,hq,f1,f2,f3⟩:=Paired.get r hx
 refine ⟨q.2.1,q.2.2,JV (dE (U6 X.prog X.w)) q,?_,rfl,rfl,f2,f3⟩
 rw[<- aM,h4,w5,hq];rfl
theorem xD {P:j7}{w:u9}{K:m6}{els:List Expr}{kk:Nat}{pos:Pos}{it:Addr}{o:Obj}{es:Array M4}{ep:Nat} (hd:o.data=.dict es ep):
  rS P w K (.Tuple els kk pos) (LG d o kvs) [it] it (fun i h=>∃ok ov,bU h it d i es.size ep ok ov) where
 mem:=by simp
 obj:=fun i h st c hc=>by
  obtain ⟨ok,ov,he⟩:=st
  simp only[A0,y7,or_false] at hc
  subst hc
  exact ⟨_,he,fun v q=>by cases q⟩
 keep:=fun i h h' st k=>let ⟨ok,ov,he⟩:=st;⟨ok,ov,k _ (by simp) _ he⟩
 item:=by
  intro X hP hw hK hc i pins s σ H E I hf st hg
  subst hP hw hK
  obtain ⟨hF,hi⟩:=hg
  obtain ⟨ok,ov,he⟩:=st
  obtain ⟨h1,hsz,hget⟩:=I.frzT hF hd
  obtain ⟨⟨k,x⟩,hkx⟩:∃kx,kvs[i]?=some kx:=⟨_,f7 hi⟩
  obtain ⟨ka,u,en,e1,e2,e3,e4,ru⟩:=hget i k x hkx
  refine nN he h1 hd e1 fun h' z1 new sz keep=>?_
  rw[e2,e3] at z1 new
  refine ⟨_,rfl,wpAny_letOwnedTupleGo_items (s:={ s with heap:=h' }) z1 fun h2 z2 sb=>?_⟩
  have ilt:it<s.heap.objs.size:=i5 he
  have k2:∀c o,c ∉ [it]->s.heap.get? c=some o->h2.get? c=some o:=fun c o hc q=>sb.extBut _ _ (fun z=>hc (by simp[z])) (keep c o (fun z=>hc (by simp[z])) q)
  have e0:h2.get? s.heap.objs.size=some { cls:=.type "tuple",data:=.seq #[.ref ka,u] }:=sb.extBut _ _ (B9 ilt) new
  have hn:H s.heap.objs.size=none:=I.hok.fresh (i6 _)
  refine ⟨.ref s.heap.objs.size,_,I.yieldPair (t':=s.toks) (x:=.ref ka) (y:=x) hf k2 e0 rfl ru,rfl,⟨_,ka,k,x,hn,rfl,rfl,hkx,e4⟩,⟨_,_,z2⟩,fun c hc=>?_⟩
  have hlt:c<s.heap.objs.size:=by
   simp only[A0,y7,or_false] at hc
   subst hc;exact ilt
  rw[A1 (n0 hlt)]
  exact (hf c hc).1
 done:=by
  intro X hP hw hK hc i pins s σ H E I hf st hg
  subst hP hw hK
  obtain ⟨hF,hi⟩:=hg
  obtain ⟨ok,ov,he⟩:=st
  obtain ⟨h1,hsz,_⟩:=I.frzT hF hd
  exact qJ (I.ok.hd hc) he h1 hd (by lia) fun h' keep=>⟨rfl,I.turnedL (t':=s.toks) (ch:=[it]) (fun c o hc e=>keep c o (fun q=>hc (by simp[q])) e) hf⟩
 self:=fun _ _ _ _ _ st h=>let ⟨_,_,he⟩:=st;rO he h
theorem C8.freeze (I:C8 X pins σ H s) (e:H d=some (.dT kvs)):∃o es ep,o.data=.dict es ep/\s.heap.get? d=some o/\C8 X pins σ (n8 H d (.frz o (.dT kvs))) s:=by
 have ok:=(show M9 X.prog X.w H s.heap d (.dT kvs) from I.hok d _ e)
 obtain ⟨_,_,_,_,o,es,ep,ho,_,hd,_⟩:=id ok
 refine ⟨o,es,ep,hd,ho,?_⟩
 have tup:∀b xs,H b=some (.tup xs)->n8 H d (.frz o (.dT kvs)) b=some (.tup xs):=fun b xs q=>by
  rw[A1 (qx q e (by intro z;cases z))];exact q
 have own:∀b c,H b=some (.own c)->n8 H d (.frz o (.dT kvs)) b=some (.own c):=fun b c q=>by
  rw[A1 (qx q e (by intro z;cases z))];exact q
 have:=I.step (H':=n8 H d (.frz o (.dT kvs))) (h':=s.heap) (g':=s.gens) (d':=s.drawn) (t':=s.toks) (ch:=[]) (fun _ z=>nomatch z) (fun b o _ _ _ q _=>q) (fun b o _ _ _ q _=>⟨o.slots,q⟩)
  (fun b o _ _ n=>by
   by_cases hb:b=d
   ·subst hb;rw[e] at n;cases n
   ·rw[A1 hb];exact n) (fun b o _ q=>⟨o,q⟩) tup (fun b o u q=>by rw[A1 (qx q e (by intro z;cases z))];exact q) (fun b ps q=>⟨#[],by rw[A1 (qx q e (by intro z;cases z)),q];simp⟩) (fun m hm=>hm)
  (fun b ob q=>by
   by_cases hb:b=d
   ·subst hb
    rw[f9] at q;cases q
    exact ⟨ho,ok.stay (fun c v _ q=>q) (fun c q=>own c _ q) tup⟩
   ·rw[A1 hb] at q
    exact (I.hok b ob q).stay (fun c v _ q=>q) (fun c q=>own c _ q) tup) I.bare
 exact this
noncomputable def Je (td:TE):TI:=fun σ H R=>td σ H fun x H1=>∃d kvs,x=.ref d/\H1 d=some (.dT kvs)/\∀o,R (LG d o kvs) (n8 H1 d (.frz o (.dT kvs)))
theorem qh {e:Expr}{els:List Expr}{kk:Nat}{pt apos cpos:Pos}{td:TE} (ho:PE X e td) (hbase:jF e "items" X.env (eval e X.env)=eval e X.env:=by rfl) (hline:(apos.endLine == cpos.line)=true:=by rfl):
  PI X (.Tuple els kk pt) (.Call (.Attribute e "items" apos) [] [] cpos) (Je td):=by
 intro pins s σ H R I h
 refine EB hbase hline (W8 (ho pins s σ H _ I h) fun v s1 ⟨x,H1,I1,r1,d,kvs,ex,hd,q⟩=>?_)
 subst ex
 cases r1
 obtain ⟨o,es,ep,hdat,hob,I2⟩:=I1.freeze hd
 obtain ⟨_,hsys,_,_,o',_,_,hob',hex,_⟩:=(show M9 X.prog X.w H1 s1.heap d (.dT kvs) from I1.hok d _ hd)
 rw[hob] at hob'
 cases hob'
 refine ⟨"dict","dict.items",gN,gM,uP,⟨o,hob,hex.1⟩,fun a e=>by cases e;exact ⟨o,hob,hex.2.1⟩,cP rfl (Bz ?_)⟩
 refine qI hsys ⟨o,hob,hex.1⟩ ?_
 refine nM (s:={ s1 with heap:=s1.heap.push { cls:=.type "dict_items",data:=.fields #[.ref d] } }) ⟨_,j9 _ rfl,rfl,rfl⟩ (d7 _ hob) hdat ?_
 have I3:C8 X pins σ (n8 H1 d (.frz o (.dT kvs))) { s1 with heap:=s1.heap.push { cls:=.type "dict_items",data:=.fields #[.ref d] } }:=I2.kept (t':=s1.toks) fun b o e=>d7 _ e
 refine ⟨_,[_],_,_,n8 H1 d (.frz o (.dT kvs)),rfl,I3.kept (t':=s1.toks) fun b o e=>d7 _ e,xD hdat,⟨_,_,j9 _ rfl⟩,fun b hb=>?_,q o⟩
 have e:b=(s1.heap.push { cls:=.type "dict_items",data:=.fields #[.ref d] }).objs.size:=by simpa using hb
 subst e
 exact I3.fpOk (i6 _) (I3.hok.fresh (i6 _))
end
section
variable {X:Cx}
noncomputable def tDT1 (tk tv:TE):TE:=fun σ H Q=>∀p,H p=none->tk σ (n8 H p (.dT [])) fun y H1=>tv σ H1 fun x H2=>H2 p=some (.dT [])/\∃b ks,y=.ref b/\H2 b=some (.tup (ks.map kV))/\Q (.ref p) (n8 H2 p (.dT [(ks,x)]))
theorem Di {k v:Expr}{tk tv:TE}{pos:Pos} (hu:X.A.units+1<fA) (hk:PE X k tk) (hv:PE X v tv):PE X (.Dict [some k] [v] pos) (tDT1 tk tv):=by
 intro pins s σ H Q I q
 have hn:=I.hok.fresh (i6 s.heap.objs.size)
 have I1:=I.laid (a:=s.heap.objs.size) (o:=.dT []) (h':=s.heap.push { cls:=.type "dict",data:=.dict #[] }) (t':=s.toks) (fun _ _ q=>d7 _ q) (i6 _) (wz s.heap I.big)
 refine wpAny_Dict_any rfl rfl (by simp) (by simp) (pairTrees_cons_walk (W8 (hk pins _ σ _ _ I1 (q _ hn)) fun u s1 ⟨y,H1,I2,ry,q1⟩=>W8 (hv pins s1 σ H1 _ I2 q1) fun r s2 ⟨x,H2,I3,rx,e,b,ks,ey,eb,q2⟩=>pairTrees_nil_walk ?_))
 subst ey
 cases ry
 unfold storeAll
 rw[fB]
 obtain ⟨z,hd,xs,rel,dd⟩:=GQ I3.hok e
 have hz:xs.length<=i0:=by rw[<- dM rel];exact z
 refine b7 (b7 (wpAny_dictSet_heap (hsz:=hz) (knd:=dE (U6 X.prog X.w)) (show (dE (U6 X.prog X.w)).room X.A from Nat.lt_of_succ_lt hu) (qF I3.hok eb) dd fun h' dd' hs=>d6 ?_))
 show j6 _ _ (forIn [] PUnit.unit _) _ _ _
 rw[fX]
 refine d6 ⟨.ref s.heap.objs.size,_,?_,rfl,q2⟩
 obtain ⟨qo,es,ep,hq,h2,h3,h4,_,h5⟩:=dd'
 refine uG I3 (by rw[e];exact R6) hs ⟨qo,hq⟩ ⟨by show 1<=i0;decide,hd,_,(rel.put ks eb rx).keeps fun c ys ec=>?_,qo,es,ep,hq,h2,h3,h4,h5⟩
 rw[A1 (qx ec e (fun z=>nomatch z))]
 exact ec
end
section
theorem mM {d:Addr}{o:Obj}{kvs:List (List S6 × V)}{g:TG}{tb:TS}{D:qT}{σ:St}{H:Hp} (Pv:Nat->St->Hp->Prop) (h0:Pv 0 σ H) (hl:∀i σ H,i<=kvs.length->Pv i σ H->H d=some (.frz o (.dT kvs)))
  (hs:∀i k x σ H p ka,kvs[i]?=some (k,x)->H p=none->H ka=some (.tup (k.map kV))->Pv i σ H->g (.ref p) σ (n8 H p (.tup [.ref ka,x])) fun σ2 H2=>tb { D with nx:=Pv (i+1),ct:=Pv (i+1),bk:=D.nx } σ2 H2) (hd:∀σ H,Pv kvs.length σ H->D.nx σ H):
  ∃W:Nat->Nat->St->Hp->Prop,(∃m,W 0 m σ H)/\∀i m σ H,W i m σ H ->
   ((LG d o kvs).stop i H/\D.nx σ H) ∨ ((LG d o kvs).go i H/\∃N:St->Hp->Prop,(∀σ' H',N σ' H'->∃m',m'<m/\W (i+1) m' σ' H')/\∀x H',(LG d o kvs).yld i H x H'->g x σ H' fun σ2 H2=>tb { D with nx:=N,ct:=N,bk:=D.nx } σ2 H2):=by
 refine ⟨fun i m σ H=>m=kvs.length - i/\i<=kvs.length/\Pv i σ H,⟨kvs.length,by simp,v8 _,h0⟩,?_⟩
 rintro i m σ H ⟨rfl,hi,p⟩
 have q:=hl i σ H hi p
 rcases Nat.lt_or_ge i kvs.length with h|h
 ·refine .inr ⟨⟨q,h⟩,Pv (i+1),fun σ' H' p'=>⟨_,by lia,rfl,by lia,p'⟩,fun x H' y=>?_⟩
  obtain ⟨pp,ka,k,x',hp,rfl,rfl,hx,hk⟩:=y
  exact hs i k x' σ H pp ka hx hp hk p
 ·have e:i=kvs.length:=by lia
  subst e
  exact .inl ⟨⟨q,i6 _⟩,hd σ H p⟩
theorem wk2 {σ0:St} (hσ:σ0[0]?=some none/\σ0[1]?=some none) (x y:V):Wk σ0 ((σ0.set 0 (some x)).set 1 (some y)):=by
 refine ⟨by simp,fun j u e=>?_⟩
 by_cases h1:j=1
 ·subst h1;rw[hσ.2] at e;cases e
 ·rw[N8 (F6 h1)]
  by_cases h2:j=0
  ·subst h2;rw[hσ.1] at e;cases e
  ·rw[N8 (F6 h2)];exact e
theorem Es {K:m6}{a:Addr}{xs:List V}{σ0:St}{tc:TT}{te:TE}{H:Hp}{F:List V->Hp->Prop} (hn:xs.length<=i0) (Pv:Nat->List V->Hp->Prop) (h0:Pv 0 [] H) (hl:∀i ys H,Pv i ys H->ys.length<=i)
  (hq:∀i ys H,i<=xs.length->Pv i ys H->dI K H a xs) (hσ:σ0[0]?=some none/\σ0[1]?=some none)
  (hs:∀i ys H x p,xs[i]?=some x->H p=none->Pv i ys H->tc ((σ0.set 0 (some (.int i))).set 1 (some x)) (n8 H p (.tup [.int i,x])) fun b H5=>if b=true then te ((σ0.set 0 (some (.int i))).set 1 (some x)) H5 (fun z H'=>Pv (i+1) (ys++[z]) H') else Pv (i+1) ys H5)
  (hd:∀ys H,Pv xs.length ys H->F ys H):EA (Ite K a) σ0 (Ba K 2 (lF (bC 0) (lF (bC 1) DY))) tc te H F:=by
 refine ⟨fun i m ys H=>m=xs.length - i/\i<=xs.length/\Pv i ys H,⟨xs.length,by simp,v8 _,h0⟩,?_⟩
 rintro i m ys H2 ⟨rfl,hi,p⟩
 have q:=hq i ys H2 hi p
 have hlen:=hl i ys H2 p
 refine ⟨by lia,?_⟩
 by_cases hlt:i<xs.length
 ·refine .inr ⟨⟨xs,xs[i],q,by simp[hlt]⟩,fun y H'=>Pv (i+1) (ys++[y]) H',fun H'=>Pv (i+1) ys H',fun y H' q=>⟨xs.length - (i+1),by lia,rfl,hlt,q⟩,fun H' q=>⟨xs.length - (i+1),by lia,rfl,hlt,q⟩,fun v H3 yld=>?_⟩
  obtain ⟨r,x,hr,rfl,rfl,hx⟩:=yld
  exact ⟨r,[.int i,x],rfl,.of f9,rfl,.int i,[x],rfl,x,[],rfl,rfl,wk2 hσ _ _,hs i ys _ x r (hx xs q) hr p⟩
 ·have e:i=xs.length:=by lia
  subst e
  exact .inl ⟨⟨xs,q,i6 _⟩,hd ys H2 p⟩
end
end L2
namespace Mt
noncomputable def fr (q:Rat):List Int:=[q.num,(q.den:Int)]
noncomputable def cut (t b:Int):Rat:=mkRat t b.toNat
variable {b:Int}
theorem zP {t:Int} (hb:0<b):(cut t b).num=t / (U8 t b:Int):=by
 have h:b.toNat≠0:=by lia
 unfold cut
 rw[ng,dif_neg h,Rat.num_normalize]
 have e:b.toNat=b.natAbs:=by lia
 rw[e];rfl
theorem zR {t:Int} (hb:0<b):((cut t b).den:Int)=b / (U8 t b:Int):=by
 have h:b.toNat≠0:=by lia
 unfold cut
 rw[ng,dif_neg h,Rat.den_normalize]
 have e:b.toNat=b.natAbs:=by lia
 rw[e,Int.natCast_ediv]
 have e2:((b.natAbs:Nat):Int)=b:=by lia
 rw[e2];rfl
theorem DZ {t:Int} (hb:0<b):fr (cut t b)=[t / (U8 t b:Int),b / (U8 t b:Int)]:=by
 unfold fr;rw[zP hb,zR hb]
theorem zQ (p q:Rat):cut (p.num*q.num) ((p.den:Int)*(q.den:Int))=p*q:=by
 unfold cut
 rw[Rat.mul_def,ng]
 have e:((p.den:Int)*(q.den:Int)).toNat=p.den*q.den:=by rw[<- cE];rfl
 have hp:=p.den_nz;have hq:=q.den_nz
 have h:p.den*q.den≠0:=cD hp hq
 rw[dif_neg (by rw[e];exact h)]
 congr 1
theorem zS (p q:Rat):cut (p.num*(q.den:Int)+q.num*(p.den:Int)) ((p.den:Int)*(q.den:Int))=p+q:=by
 unfold cut
 rw[Rat.add_def,ng]
 have e:((p.den:Int)*(q.den:Int)).toNat=p.den*q.den:=by rw[<- cE];rfl
 have hp:=p.den_nz;have hq:=q.den_nz
 have h:p.den*q.den≠0:=cD hp hq
 rw[dif_neg (by rw[e];exact h)]
 congr 1
theorem Ei {c:Int} (hc:0<c):cut 0 c=0:=by
 unfold cut
 rw[Rat.mkRat_eq_zero (by lia)]
structure Bd (n:Nat) (q:Rat):Prop where
 num:q.num.natAbs<=2 ^ n
 den:q.den<=2 ^ n
theorem jk (a:Int) (g:Nat):(a / (g:Int)).natAbs<=a.natAbs:=by
 rcases Nat.eq_zero_or_pos g with h|h
 ·subst h;simp
 ·have h0:(0:Int)<g:=by lia
  rcases Int.le_total 0 a with ha|ha
  ·have h1:0<=a / (g:Int):=Int.ediv_nonneg ha (by lia)
   have h2:a / (g:Int)<=a:=Int.ediv_le_self _ ha
   lia
  ·have h1:a<=a / (g:Int):=by
    rw[Int.le_ediv_iff_mul_le h0]
    have:a*(g:Int)<=a*1:=Int.mul_le_mul_of_nonpos_left ha (by lia)
    lia
   have h2:a / (g:Int)<=0:=by
    have:=Int.ediv_le_ediv h0 ha
    simpa using this
   lia
theorem Bd.cut {t b:Int}{n:Nat} (hb:0<b) (h1:t.natAbs<=2 ^ n) (h2:b.natAbs<=2 ^ n):Bd n (Mt.cut t b):=by
 refine ⟨?_,?_⟩
 ·rw[zP hb];exact j0 (jk _ _) h1
 ·have:=zR (t:=t) hb
  have l:=jk b (U8 t b)
  lia
noncomputable def bP:List Int->List Int->List Int:=yR (·+·)
noncomputable def yY (ns:List Int) (k:Nat):Rat:=cut (ns.getD k 0) ns.sum
structure jP (n m:Nat) (ns:List Int):Prop where
 len:ns.length=n
 nn:∀x∈ns,0<=x/\x<=m
 pos:0<ns.sum
structure EO (n m:Nat) (r:List Int):Prop where
 len:r.length=n
 nn:∀x∈r,0<=x/\x<=m
structure kF (n m:Nat) (rs:List (List Int)):Prop where
 len:rs.length=n
 row:∀r∈rs,EO n m r
theorem kF.at {n m:Nat}{rs:List (List Int)} (h:kF n m rs) {k:Nat} (hk:k<n):EO n m (rs.getD k []):=by
 have hk':k<rs.length:=by rw[h.len];exact hk
 have:rs.getD k []=rs[k]:=by rw[A2,f7 hk'];rfl
 rw[this];exact h.row _ (K9 hk')
theorem fj:∀{l:List Int},(∀x∈l,0<=x)->0<=l.sum
 | [],_=>by simp
 | a::l,h=>by
  rw[W6]
  have h1:=h a i4
  have h2:=fj fun x hx=>h x (i3 _ hx)
  lia
theorem Cz {m:Int}:∀{l:List Int},(∀x∈l,x<=m)->l.sum<=m*(l.length:Int)
 | [],_=>by simp
 | a::l,h=>by
  rw[W6,m9]
  have h1:=h a i4
  have h2:=Cz fun x hx=>h x (i3 _ hx)
  have e:m*((l.length+1:Nat):Int)=m*(l.length:Int)+m:=by rw[Int.natCast_add,Int.mul_add];simp
  lia
theorem wR:∀{a b:List Int},a.length=b.length->(bP a b).sum=a.sum+b.sum
 | [],[],_=>by simp[bP]
 | x::a,y::b,h=>by
  have ih:=wR (a:=a) (b:=b) (by simpa using h)
  show ((x+y)::bP a b).sum=_
  rw[W6,W6,W6,ih];lia
 | [],_::_,h=>by simp at h
 | _::_,[],h=>by simp at h
theorem wU:∀{a b:List Int}{x:Int},x∈bP a b->∃y∈a,∃z∈b,x=y+z
 | [],b,x,h=>by simp[bP] at h
 | _::_,[],x,h=>by simp[bP] at h
 | p::a,q::b,x,h=>by
  rcases List.mem_cons.mp (show x∈(p+q)::bP a b from h) with e|h
  ·exact ⟨p,i4,q,i4,e⟩
  ·obtain ⟨y,hy,z,hz,e⟩:=wU h
   exact ⟨y,i3 _ hy,z,i3 _ hz,e⟩
theorem jP.add {n m j:Nat}{ns r:List Int} (h:jP n m ns) (hr:EO n j r):jP n (m+j) (bP ns r):=by
 have hl:ns.length=r.length:=by rw[h.len,hr.len]
 refine ⟨?_,fun x hx=>?_,?_⟩
 ·unfold bP;rw[fG,h.len,hr.len];lia
 ·obtain ⟨y,hy,z,hz,e⟩:=wU hx
  have:=h.nn y hy;have:=hr.nn z hz;lia
 ·rw[wR hl]
  have:=fj (l:=r) fun x hx=>(hr.nn x hx).1
  have:=h.pos;lia
theorem jP.getD {n m:Nat}{ns:List Int} (h:jP n m ns) (k:Nat):0<=ns.getD k 0/\ns.getD k 0<=m:=by
 rw[A2]
 cases e:ns[k]? with
 | none=>simp
 | some x=>exact h.nn x (m8 e)
noncomputable def rK:List Rat->Rat
 | []=>0
 | q::r=>q+rK r
end Mt
namespace Md
open PySem PySem.Spec L2 Mt
noncomputable abbrev Tab:=List (List Int × Int)
noncomputable def kI (ns:List Int):List S6:=ns.map S0
theorem lC (ns:List Int):(kI ns).map kV=ns.map V.int:=by
 unfold kI;rw[R8];rfl
theorem qH:∀{a b:List Int},kI a=kI b->a=b
 | [],[],_=>rfl
 | [],_::_,h=>by cases h
 | _::_,[],h=>by cases h
 | x::a,y::b,h=>by
  have h':(S0 x:S6)::kI a=S0 y::kI b:=h
  injection h' with h1 h2
  injection h1 with h1
  rw[h1,qH h2]
noncomputable def lin (D:Tab) (φ:List Int->Int):Int:=(D.map fun p=>p.2*φ p.1).sum
noncomputable def eE (rs:List (List Int)) (u:List Int):Nat->List Int->List (Int × List Int)
 | _,[]=>[]
 | i,b::bs=>if 0<b then (b,bP u (rs.getD i []))::eE rs u (i+1) bs else eE rs u (i+1) bs
noncomputable def pj (rs:List (List Int)) (u:List Int):List (Int × List Int):=eE rs u 0 u
theorem jv (rs:List (List Int)) (u:List Int) (i:Nat) (b:Int) (bs:List Int):eE rs u i (b::bs)=if 0<b then (b,bP u (rs.getD i []))::eE rs u (i+1) bs else eE rs u (i+1) bs:=rfl
theorem ly {rs:List (List Int)}{u:List Int}:∀{bs:List Int}{i:Nat}{b:Int × List Int},b∈eE rs u i bs->∃j,j<bs.length/\b.1=bs.getD j 0/\b.2=bP u (rs.getD (i+j) [])
 | [],_,_,h=>by unfold eE at h;simp at h
 | x::bs,i,b,h=>by
  unfold eE at h
  split at h
  ·rcases List.mem_cons.mp h with e|e
   ·subst e;exact ⟨0,by simp,rfl,rfl⟩
   ·obtain ⟨j,h1,h2,h3⟩:=ly e
    exact ⟨j+1,by simp;lia,by rw[h2];rfl,by rw[h3,show i+1+j=i+(j+1) by lia]⟩
  ·obtain ⟨j,h1,h2,h3⟩:=ly h
   exact ⟨j+1,by simp;lia,by rw[h2];rfl,by rw[h3,show i+1+j=i+(j+1) by lia]⟩
theorem qD {rs:List (List Int)}{u:List Int}:∀(bs:List Int) (i:Nat),(eE rs u i bs).length<=bs.length
 | [],_=>by unfold eE;simp
 | x::bs,i=>by
  unfold eE
  have:=qD (rs:=rs) (u:=u) bs (i+1)
  split <;> simp <;> lia
noncomputable def mO (rs:List (List Int)) (i:Nat):List Int->Nat->Int
 | [],_=>0
 | c::cs,j=>c*(rs.getD j []).getD i 0+mO rs i cs (j+1)
noncomputable def aL (u:List Int) (rs:List (List Int)) (c:List Int):List Int:=(J9 u.length).map fun i=>u.getD i 0+mO rs i c 0
noncomputable def inc (c:List Int) (i:Nat):List Int:=c.set i (c.getD i 0+1)
theorem wG (rs:List (List Int)) (i:Nat):∀(c:List Int) (j k:Nat),k<c.length->mO rs i (inc c k) j=mO rs i c j+(rs.getD (j+k) []).getD i 0
 | [],_,_,h=>by simp at h
 | x::c,j,0,_=>by
  show (x+1)*_+mO rs i c (j+1)=x*_+mO rs i c (j+1)+_
  rw[Int.add_mul];simp;lia
 | x::c,j,k+1,h=>by
  have ih:=wG rs i c (j+1) k (by simpa using h)
  show x*_+mO rs i (inc c k) (j+1)=x*_+mO rs i c (j+1)+_
  rw[ih,show j+1+k=j+(k+1) by lia];lia
theorem uL {n:Nat}{u c:List Int}{rs:List (List Int)}{k:Nat} (hu:u.length=n) (hc:c.length=n) (hR:kF n 5 rs) (hk:k<n):aL u rs (inc c k)=bP (aL u rs c) (rs.getD k []):=by
 have hr:=hR.at hk
 have l1:(aL u rs c).length=n:=by unfold aL;simp[hu]
 apply oo
 intro i
 unfold bP
 rw[jS]
 unfold aL
 rw[w5,w5]
 by_cases hi:i<n
 ·rw[lR (by lia)]
  rw[f7 (l:=rs.getD k []) (by rw[hr.len];exact hi)]
  simp only[ar]
  rw[wG rs i c 0 k (by lia),K5]
  congr 1
  rw[show (rs.getD k []).getD i 0=(rs.getD k [])[i]'(by rw[hr.len];exact hi) by rw[A2 (l:=rs.getD k []),f7 (by rw[hr.len];exact hi)];rfl]
  lia
 ·rw[jT (by simp;lia)]
  simp
theorem sN (rs:List (List Int)) (i:Nat):∀(n j:Nat),mO rs i (u5 n 0) j=0
 | 0,_=>rfl
 | n+1,j=>by
  show (0:Int)*_+mO rs i (u5 n 0) (j+1)=0
  rw[sN rs i n (j+1)];lia
theorem qO (u:List Int) (rs:List (List Int)) (n:Nat):aL u rs (u5 n 0)=u:=by
 unfold aL
 apply oo
 intro i
 rw[w5]
 by_cases hi:i<u.length
 ·rw[lR hi,ar,sN,A2,f7 hi];simp
 ·rw[jT (by simp;lia),jT (by lia)];rfl
end Md
namespace L2
open PySem PySem.Spec PyProof.Rows
noncomputable abbrev lit (t:Addr):Obj:={ cls:=.type "list_iterator",data:=.fields #[.ref t,.int 0 0] }
section
variable {X:Cx}
noncomputable def LF (K:m6) (a b:Addr):It :=
 ⟨fun i H=>∃xs ys x y,dP K H a xs/\dI K H b ys/\xs[i]?=some x/\ys[i]?=some y,fun i H v H'=>∃p x y,H p=none/\v=.ref p/\H'=n8 H p (.tup [x,y])/\(∀xs,dP K H a xs->xs[i]?=some x)/\∀ys,dI K H b ys->ys[i]?=some y,
  fun i H=>∃xs,dP K H a xs/\xs.length<=i⟩
end
section
variable {X:Cx}{K:m6}
noncomputable def GO (K:m6) (ta:TA):TI:=fun σ H R=>ta σ H fun vs H1=>∃a b xs ys,vs=[.ref a,.ref b]/\dI K H1 b ys/\((dI K H1 a xs/\R (Itz K a b) H1) ∨ (dP K H1 a xs/\R (LF K a b) H1))
theorem Fz {e1 e2:Expr}{es:List Expr}{kk:Nat}{pt p pos:Pos}{ta:TA} (hg:Gl X "zip") (hm:X.mg "zip"=none) (ha:PA X [e1,e2] ta) (hs:A4 [e1,e2] X.env=[(false,eval e1 X.env),(false,eval e2 X.env)]:=by rfl) (hs2:A4 [e2] X.env=[(false,eval e2 X.env)]:=by rfl):
  PI X (.Tuple es kk pt) (.Call (.Name "zip" p) [e1,e2] [] pos) (GO X.K ta):=
 uf hg hm ha (fun I ⟨_,_,_,_,e,hy,hx⟩=>⟨_,_,e,hx.elim (fun h=>kT (p:=false) (q:=false) I h.1 hy (fun D=>jw D) h.2) fun h=>kT (p:=true) (q:=false) I h.1 hy (fun D=>jw D) h.2⟩) hs hs2
theorem De (h:X.K=K) {e1 e2:Expr}{es:List Expr}{kk:Nat}{pt p pos:Pos}{ta:TA} (hg:Gl X "zip") (hm:X.mg "zip"=none) (ha:PA X [e1,e2] ta) (hs:A4 [e1,e2] X.env=[(false,eval e1 X.env),(false,eval e2 X.env)]:=by rfl) (hs2:A4 [e2] X.env=[(false,eval e2 X.env)]:=by rfl):
  PI X (.Tuple es kk pt) (.Call (.Name "zip" p) [e1,e2] [] pos) (GO K ta):=by subst h;exact Fz hg hm ha hs hs2
theorem Ep {a b:Addr}{xs ys:List V}{σ0:St}{te:TE}{H:Hp}{F:List V->Hp->Prop} (hn:xs.length<=i0) (hxy:xs.length=ys.length) (Pv:Nat->List V->Hp->Prop) (h0:Pv 0 [] H) (hl:∀i zs H,Pv i zs H->zs.length=i)
  (hq:∀i zs H,i<=xs.length->Pv i zs H->dP K H a xs/\dI K H b ys) (hσ:σ0[0]?=some none/\σ0[1]?=some none)
  (hs:∀i zs H x y p,xs[i]?=some x->ys[i]?=some y->H p=none->Pv i zs H->te ((σ0.set 0 (some x)).set 1 (some y)) (n8 H p (.tup [x,y])) fun z H'=>Pv (i+1) (zs++[z]) H') (hd:∀zs H,Pv xs.length zs H->F zs H):
  EA (LF K a b) σ0 (Ba K 2 (lF (bC 0) (lF (bC 1) DY))) X4 te H F:=by
 refine ⟨fun i m zs H=>m=xs.length - i/\i<=xs.length/\Pv i zs H,⟨xs.length,by simp,v8 _,h0⟩,?_⟩
 rintro i m zs H2 ⟨rfl,hi,p⟩
 obtain ⟨q1,q2⟩:=hq i zs H2 hi p
 refine ⟨by rw[hl i zs H2 p];lia,?_⟩
 by_cases hlt:i<xs.length
 ·refine .inr ⟨⟨xs,ys,xs[i],ys[i]'(by lia),q1,q2,by simp[hlt],by rw[f7 (by lia)]⟩,fun y H'=>Pv (i+1) (zs++[y]) H',fun _=>False,fun y H' q=>⟨xs.length - (i+1),by lia,rfl,hlt,q⟩,fun _ q=>q.elim,fun v H3 yld=>?_⟩
  obtain ⟨r,x,y,hr,rfl,rfl,hx,hy⟩:=yld
  exact ⟨r,[x,y],rfl,.of f9,rfl,x,[y],rfl,y,[],rfl,rfl,wk2 hσ _ _,hs i zs _ x y r (hx xs q1) (hy ys q2) hr p⟩
 ·have e:i=xs.length:=by lia
  subst e
  exact .inl ⟨⟨xs,q1,i6 _⟩,hd zs H2 p⟩
end
section
variable {prog:j7}{w:u9}{A:A8}{E:b9->d9->Prop}{s:d9}
end
section
variable {X:Cx}
end
theorem Jf {CX:Ad}{P:j7}{w:u9}{K:m6}{mg:Str->Option b9}{base:Heap}{f:Addr}{name qual:Str}{params:dH}{body:List Stmt}{scope:T5}{dV kV doc pm cdv ct oc:b9}{an od:Option Addr}
  {osl:Array (Option b9)}{N ps:List Str}{sp:Sp} (lk:K.lookup f=some ⟨oc,od,.func (gK name qual params body scope dV kV doc pm an cdv ct),osl⟩) (hcd:jH K cdv qual=true) (S:D8 N ps scope)
  (len:∀vs H Q E,sp vs H Q E->vs.length=ps.length)
  (hbody:∀(A:A8) (outer:List Env) (s:d9) (H:Hp) (vs:List V) (Q:VK) (E:XK),sp vs H Q E ->
   ∃t,rV (gy CX P w K mg base N qual scope f cdv A outer s H E) body t/\t { nx:=fun _ H'=>Q .non H',rt:=Q } (start N vs) H):
  O5 P w K mg base CX 0 f (gK name qual params body scope dV kV doc pm an cdv ct) ps sp:=by
 refine ⟨len,fun A outer s H args us vs Q E hr e0 hb r hsp=>?_⟩
 have hl:=len _ _ _ _ hsp
 have KX:K.In s.heap:=e0.mod.kin.keeps fun b o e=>(e0.bs b o e).1
 have lim:s.heap.NoLimit:=e0.mod.nolimit.keeps fun b o e=>(e0.bs b o e).1
 have hkind:∀y∈ps.zip us,scope.names.lookup y.1=some .local ∨ (scope.names.lookup y.1=some .cell/\((R0 (s.heap.objs.size+1) scope.names []).lookup y.1).isSome=true):=fun ⟨n,v⟩ hy=>by
  rcases S.par n (jJ hy).1 with q|q
  ·exact .inl q
  ·exact .inr ⟨q,tq _ _ _ (.inl q)⟩
 refine Gr hr.depth (KX _ _ lk) rfl S.co S.gen rfl (W.codeRec_of KX hcd) (hb _ _ _ _ ?_)
 refine Ae S.kind hkind fun env he s1 x=>?_
 subst he
 refine ⟨lim.keeps x.toInCall.keep,codeAny_func ?_⟩
 obtain ⟨t,ht,hq⟩:=hbody A outer s H vs Q E hsp
 have I:C8 (gy CX P w K mg base N qual scope f cdv A outer s H E) [] (start N vs) H s1:=sF S hr.hd e0 hl r x
 refine F5 (ht [] s1 (start N vs) H _ I hq) (fun fl s' hs=>?_) fun e s' hs=>hs
 have fin:∀{σ':St}{H':Hp}{v:V}{u:b9},C8 (gy CX P w K mg base N qual scope f cdv A outer s H E) [] σ' H' s'->K2 v u->Q v H'->CE outer P w H s Q u s' :=
  fun {σ' H' v u} J rv q=>⟨v,H',J.os,J.bare,J.base,J.hok,rv,q⟩
 cases fl with
 | ret u =>
  obtain ⟨v,σ',H',J,rv,q⟩:=hs
  exact fin J rv q
 | next =>
  obtain ⟨σ',H',J,q⟩:=hs
  exact fin (v:=V.non) (u:=B5) J rfl q
 | brk =>
  obtain ⟨_,_,_,q⟩:=hs
  exact F7 q
 | cont =>
  obtain ⟨_,_,_,q⟩:=hs
  exact F7 q
theorem cH.ok0 {P:j7}{w:u9}{K:m6}{mg:Str->Option b9}{base:Heap}{x qual:Str}{st:Stmt}{f:Addr}{fd:C5}{N ps:List Str}{sp:Sp} (F:cH K x qual st f fd) (S:D8 N ps (w6 st)) (len:∀vs H Q E,sp vs H Q E->vs.length=ps.length)
  (hbody:∀(cdv:b9) (A:A8) (outer:List Env) (s:d9) (H:Hp) (vs:List V) (Q:VK) (E:XK),sp vs H Q E ->
   ∃t,rV (gy dQ P w K mg base N qual (w6 st) f cdv A outer s H E).nox (bf st) t/\t { nx:=fun _ H'=>Q .non H',rt:=Q } (start N vs) H):O5 P w K mg base dQ 0 f fd ps sp:=by
 obtain ⟨oc,od,kV,doc,pm,an,cdv,ct,osl,rfl,lk,hcd⟩:=F.ex
 refine Jf lk hcd S len fun A outer s H vs Q E hsp=>?_
 obtain ⟨t,h,q⟩:=hbody cdv A outer s H vs Q E hsp
 exact ⟨t,h.nox,q⟩
section
variable {X:Cx}
end
end L2
namespace G
open PySem PySem.Spec PyProof.Rows L2 Mt
noncomputable def gI (i:Nat):Stmt:=PySem.Challenge.pw_growurns_k21_stands.main.body.getD i (.Pass ⟨0,0,0,0⟩)
structure Bt (mg:Str->Option b9):Prop where
 isinstance:mg "isinstance"=none
 bool:mg "bool"=none
 int:mg "int"=none
 tuple:mg "tuple"=none
 list:mg "list"=none
 all:mg "all"=none
 sum:mg "sum"=none
 len:mg "len"=none
 range:mg "range"=none
 max:mg "max"=none
 min:mg "min"=none
 abs:mg "abs"=none
 zip:mg "zip"=none
noncomputable def Q8 (lo hi:Int):A7->Bool
 | .int i=>decide (lo<=i)&&decide (i<=hi)
 | _=>false
section
variable {P:j7}{w:u9}{K:m6}{mg:Str->Option b9}{base:Heap}{f:Addr}{fd:C5}
noncomputable def numD:A7->Bool
 | .int _=>true
 | _=>false
noncomputable def gU:Sp:=fun vs H Q _=>∃(v:V) (st:Addr) (d:A7),vs=[v]/\Dt st H d v/\Q (.bl (numD d)) H
noncomputable abbrev jg:Stmt:=gI 13
theorem tR:D8 ["thing"] ["thing"] (w6 jg):=⟨rfl,rfl,rfl,by decide +kernel,rfl,by decide +kernel,by decide +kernel⟩
theorem uk (F:cH K "is_number" "is_number" jg f fd) (B:Bt mg):O5 P w K mg base dQ 0 f fd ["thing"] gU:=by
 refine F.ok0 tR (fun vs H Q E h=>?_) (fun cdv A outer s H vs Q E h=>?_)
 ·obtain ⟨v,st,d,rfl,_⟩:=h
  rfl
 obtain ⟨v,st,d,rfl,hd,q⟩:=h
 refine ⟨_,t6 (C6 (cS (n9 (M8 zu) rfl B.isinstance r0 (b8 (pv 0) (b8 (O8 rfl B.int Ai) f6)))
  (cR (Dg (n9 (M8 lB) rfl B.isinstance r0 (b8 (pv 0) (b8 (O8 rfl B.bool ED) f6))))))),?_⟩
 refine ⟨_,rfl,v,st,d,rfl,hd,_,rfl,?_⟩
 cases d with
 | bool b=>exact ⟨_,rfl,v,st,_,rfl,hd,_,rfl,q⟩
 | int i=>exact ⟨_,rfl,v,st,_,rfl,hd,_,rfl,q⟩
 | none=>exact q
 | str x=>exact q
 | list ds=>exact q
 | tuple ds=>exact q
 | dict kvs=>exact q
noncomputable def fL:Sp:=fun vs H Q _=>∃(v:V) (st:Addr) (d:A7) (lo hi:Int),vs=[v,.int lo,.int hi]/\Dt st H d v/\Q (.bl (Q8 lo hi d)) H
noncomputable abbrev ku:Stmt:=gI 14
theorem vI:D8 ["thing","low","high"] ["thing","low","high"] (w6 ku):=⟨rfl,rfl,rfl,by decide +kernel,rfl,by decide +kernel,by decide +kernel⟩
theorem vX (F:cH K "is_whole" "is_whole" ku f fd) (c1:W5 P w K mg base 0 "is_number" ["thing"] gU):O5 P w K mg base dQ 1 f fd ["thing","low","high"] fL:=by
 refine F.ok vI (fun vs H Q E h=>?_) (fun cdv A outer s H vs Q E hr h=>?_)
 ·obtain ⟨v,st,d,lo,hi,rfl,_⟩:=h
  rfl
 obtain ⟨v,st,d,lo,hi,rfl,hd,q⟩:=h
 refine ⟨_,t6 (C6 (cS (B4 c1 hr rfl (b8 (pv 0) f6)) (cR (lh jW jW (pv 1) (pv 0) (pv 2))))),?_⟩
 refine ⟨_,rfl,v,st,d,rfl,hd,_,rfl,?_⟩
 cases d with
 | int i =>
  refine V4 ?_
  unfold Dt at hd
  subst hd
  refine ⟨_,rfl,_,rfl,lo,i,rfl,rfl,_,rfl,?_⟩
  have q':Q (.bl (decide (lo<=i)&&decide (i<=hi))) H:=q
  by_cases h1:lo<=i
  ·rw[decide_eq_true h1,R3] at q'
   rw[decide_eq_true h1]
   exact V4 ⟨_,rfl,i,hi,rfl,rfl,q'⟩
  ·rw[decide_eq_false h1,P3] at q'
   rw[decide_eq_false h1]
   exact W0 q'
 | bool b=>exact q
 | none=>exact q
 | str x=>exact q
 | list ds=>exact q
 | tuple ds=>exact q
 | dict kvs=>exact q
noncomputable def O3 (lo hi:Int):A7->Bool
 | .tuple ds=>ds.all (Q8 lo hi)
 | _=>false
noncomputable def df:Sp:=fun vs H Q _=>∃(v:V) (st:Addr) (d:A7) (lo hi:Int),vs=[v,.int lo,.int hi]/\Dt st H d v/\(∀ds,d=.tuple ds->ds.length<=1000)/\∀H',i8 H H'->Q (.bl (O3 lo hi d)) H'
noncomputable abbrev gY:Stmt:=gI 15
theorem rL:D8 ["thing","low","high"] ["thing","low","high"] (w6 gY):=⟨rfl,rfl,rfl,by decide +kernel,rfl,by decide +kernel,by decide +kernel⟩
theorem rM (F:cH K "are_wholes" "are_wholes" gY f fd) (B:Bt mg) (c1:W5 P w K mg base 1 "is_whole" ["thing","low","high"] fL):O5 P w K mg base dQ 2 f fd ["thing","low","high"] df:=by
 refine F.ok rL (fun vs H Q E h=>?_) (fun cdv A outer s H vs Q E hr h=>?_)
 ·obtain ⟨v,st,d,lo,hi,rfl,_⟩:=h
  rfl
 obtain ⟨v,st,d,lo,hi,rfl,hd,hl,q⟩:=h
 refine ⟨_,t6 (C6 (cS (n9 (M8 cB) rfl B.isinstance r0 (b8 (pv 0) (b8 (O8 rfl B.tuple E7) f6)))
  (cR (n9 (Z8 rfl) rfl B.all nX (b8 (O7 (N:=["part","low","high"]) (ix:=[none,some 1,some 2]) (ifs:=[]) (tc:=X4) rfl (qg (pv 0))
   (fun s H ex=>cx (i:=0) (by decide +kernel) rfl (A5 rfl) (.inr rfl)) (fun s H ex=>O1) (fun s H ex=>B4 c1 hr rfl (b8 (pv 0) (b8 (pv 1) (b8 (pv 2) f6)))) rfl (by decide +kernel) (by rfl) (by rfl) (fun _=>rfl)) f6))))),?_⟩
 refine ⟨_,rfl,v,st,d,rfl,hd,_,rfl,?_⟩
 cases d with
 | tuple ds =>
  refine V4 ?_
  obtain ⟨a,xs,rfl,ne,ha,hds⟩:∃a xs,v=.ref a/\a≠st/\H a=some (.tup xs)/\U3 st H ds xs:=by unfold Dt at hd;exact hd
  have hlen:=hds.len
  have hl':=hl ds rfl
  refine ⟨_,rfl,a,rfl,⟨xs,.of ha⟩,oP (K:=K) (a:=a) (xs:=xs) (sz (by lia)) (fun i ys H2=>i8 H H2/\i<=ds.length/\ys=(ds.take i).map fun d=>V.bl (Q8 lo hi d)) ⟨i8.refl H,v8 _,rfl⟩ (fun i ys H2 h=>?_) (fun i ys H2 _ h=>.of (h.1 _ _ ha)) rfl (fun i ys H2 x hx h=>?_) (fun ys H2 h=>?_)⟩
  ·obtain ⟨_,hi,rfl⟩:=h
   rw[d8,v7];lia
  ·obtain ⟨hS,hil,rfl⟩:=h
   obtain ⟨d,hd',dt⟩:=hds.get hx
   refine ⟨_,rfl,_,rfl,_,rfl,x,st,d,lo,hi,rfl,dt.kp (hS.kp st),hS,(List.getElem?_eq_some_iff.mp hd').1,?_⟩
   rw[E3,hd',B0];rfl
  ·obtain ⟨hS,hil,rfl⟩:=h
   intro p hp
   refine ⟨p,_,rfl,.inl (.of f9),?_,?_⟩
   ·rw[P8];exact List.all_eq_true.mpr fun _ _=>rfl
   ·have e:(((ds.take xs.length).map fun d=>V.bl (Q8 lo hi d)).all iZ)=O3 lo hi (.tuple ds):=by
     rw[<- hlen,E2,P8];rfl
    rw[e]
    exact q _ (hS.trans (i8.new hp))
 | _=>exact q H (i8.refl H)
end
structure Ct (mg:Str->Option b9):Prop where
 kinds:∃t,mg "MOST_KINDS"=some (.int 4 t)
 balls:∃t,mg "MOST_BALLS"=some (.int 20 t)
 puts:∃t,mg "MOST_PUT_IN"=some (.int 5 t)
variable {H:Hp}{v:V}
theorem _root_.L2.Dt.untup {st:Addr}{ds:List A7}(h:Dt st H (.tuple ds) v):∃a xs,v=.ref a/\a≠st/\H a=some (.tup xs)/\U3 st H ds xs:=by unfold Dt at h;exact h
theorem _root_.L2.Dt.unint {st:Addr}{i:Int}(h:Dt st H (.int i) v):v=.int i:=by unfold Dt at h;exact h
variable {d:A7}
theorem oZ {lo hi:Int}(h:Q8 lo hi d=true):∃i,d=.int i/\lo<=i/\i<=hi:=by
 cases d with
 | int i =>
  have h':(decide (lo<=i)&&decide (i<=hi))=true:=h
  rw[y6] at h'
  exact ⟨i,rfl,of_decide_eq_true h'.1,of_decide_eq_true h'.2⟩
 | _=>cases (show false=true from h)
theorem qP {lo hi:Int}:∀{ds:List A7},ds.all (Q8 lo hi)=true->∃ns:List Int,ds=ns.map .int/\∀x∈ns,lo<=x/\x<=hi
 | [],_=>⟨[],rfl,by simp⟩
 | d::ds,h=>by
  rw[xh,y6] at h
  obtain ⟨i,e,h1,h2⟩:=oZ h.1
  obtain ⟨ns,e2,h3⟩:=qP h.2
  subst e e2
  exact ⟨i::ns,rfl,fun x hx=>by
   rcases List.mem_cons.mp hx with z|z
   ·subst z;exact ⟨h1,h2⟩
   ·exact h3 x z⟩
theorem eD {lo hi:Int}(h:O3 lo hi d=true):∃ns:List Int,d=DI ns/\∀x∈ns,lo<=x/\x<=hi:=by
 cases d with
 | tuple ds =>
  obtain ⟨ns,e,h2⟩:=qP (ds:=ds) h
  subst e
  exact ⟨ns,rfl,h2⟩
 | _=>cases (show false=true from h)
noncomputable def Jc:A7->Int
 | .int i=>i
 | _=>0
noncomputable def bt:A7->Nat
 | .tuple ds=>ds.length
 | _=>0
noncomputable def Kw:A7->Int
 | .tuple ds=>(ds.map Jc).sum
 | _=>0
theorem oA (ns:List Int):Kw (DI ns)=ns.sum:=by
 show ((ns.map K8).map Jc).sum=ns.sum
 rw[R8]
 have e:(Jc ∘ K8)=id:=by funext i;rfl
 rw[e,BD]
theorem cA (ns:List Int):bt (DI ns)=ns.length:=by show (ns.map K8).length=_;rw[d8]
noncomputable def cm (m:Int) (d:A7):Bool:=O3 0 m d&&((decide ((1:Int)<=bt d)&&decide ((bt d:Int)<=4))&&decide ((0:Int)<Kw d))
noncomputable def bQ (k:Int) (d:A7):Bool:=match d with
 | .tuple ds=>decide ((ds.length:Int)=k)&&ds.all (fun r=>O3 0 5 r&&decide ((bt r:Int)=k))
 | _=>false
noncomputable def dB (d:A7):Prop:=∀ds,d=.tuple ds->ds.length<=1000
section
variable {P:j7}{w:u9}{K:m6}{mg:Str->Option b9}{base:Heap}{f:Addr}{fd:C5}
noncomputable def dN:Sp:=fun vs H Q _=>∃(v:V) (st:Addr) (d:A7) (m:Int),vs=[v,.int m]/\Dt st H d v/\dB d/\∀H',i8 H H'->Q (.bl (cm m d)) H'
noncomputable abbrev fm:Stmt:=gI 26
theorem nZ:D8 ["thing","most"] ["thing","most"] (w6 fm):=⟨rfl,rfl,rfl,by decide +kernel,rfl,by decide +kernel,by decide +kernel⟩
theorem og (F:cH K "is_urn_up_to" "is_urn_up_to" fm f fd) (B:Bt mg) (C:Ct mg) (c1:W5 P w K mg base 2 "are_wholes" ["thing","low","high"] df):O5 P w K mg base dQ 3 f fd ["thing","most"] dN:=by
 refine F.ok nZ (fun vs H Q E h=>?_) (fun cdv A outer s H vs Q E hr h=>?_)
 ·obtain ⟨v,st,d,m,rfl,_⟩:=h
  rfl
 obtain ⟨v,st,d,m,rfl,hd,hl,q⟩:=h
 obtain ⟨tk,hk⟩:=C.kinds
 refine ⟨_,m7 (T9 (bo (Z0 (B4 c1 hr rfl (b8 (pv 0) (b8 i9 (b8 (pv 1) f6)))))) (t6 (C6 bR)) J7)
  (t6 (C6 (cS (lh jW jW i9 (n9 D6 rfl B.len C4 (b8 (pv 0) f6)) (Z5 (v:=.int 4) rfl hk ⟨tk,rfl⟩))
   (cR (eF zi (n9 (cC rfl) rfl B.sum Ah (b8 (pv 0) f6)) i9 (N6 _)))))),?_⟩
 refine ⟨_,rfl,_,rfl,v,st,d,0,m,rfl,hd,hl,fun H1 g1=>⟨_,rfl,?_⟩⟩
 have q1:=q H1 g1
 unfold cm at q1
 cases hw:O3 0 m d with
 | false =>
  rw[hw,P3] at q1
  exact V4 q1
 | true =>
  rw[hw,R3] at q1
  refine W0 ?_
  obtain ⟨ns,e,hns⟩:=eD hw
  subst e
  obtain ⟨a,e,ne,ha⟩:=hd.di
  subst e
  rw[cA,oA] at q1
  have ha1:=g1 _ _ ha
  refine ⟨_,rfl,a,_,rfl,.inr (.of ha1),_,_,rfl,rfl,_,rfl,?_⟩
  rw[d8]
  by_cases h1:(1:Int)<=(ns.length:Int)
  ·rw[decide_eq_true h1,R3] at q1
   rw[decide_eq_true h1]
   refine V4 ⟨_,_,rfl,rfl,_,rfl,?_⟩
   by_cases h2:(ns.length:Int)<=4
   ·rw[decide_eq_true h2,R3] at q1
    rw[decide_eq_true h2]
    exact V4 ⟨_,rfl,a,ns,rfl,.inr (.of ha1),_,_,rfl,rfl,q1⟩
   ·rw[decide_eq_false h2,P3] at q1
    rw[decide_eq_false h2]
    exact W0 q1
  ·rw[decide_eq_false h1,P3,P3] at q1
   rw[decide_eq_false h1]
   exact W0 ⟨_,rfl,W0 q1⟩
noncomputable def eQ:Sp:=fun vs H Q _=>∃(v:V) (st:Addr) (d:A7),vs=[v]/\Dt st H d v/\dB d/\∀H',i8 H H'->Q (.bl (cm 20 d)) H'
noncomputable abbrev pW:Stmt:=gI 25
theorem AB:D8 ["thing"] ["thing"] (w6 pW):=⟨rfl,rfl,rfl,by decide +kernel,rfl,by decide +kernel,by decide +kernel⟩
theorem AJ (F:cH K "is_urn" "is_urn" pW f fd) (C:Ct mg) (c1:W5 P w K mg base 3 "is_urn_up_to" ["thing","most"] dN):O5 P w K mg base dQ 4 f fd ["thing"] eQ:=by
 refine F.ok AB (fun vs H Q E h=>?_) (fun cdv A outer s H vs Q E hr h=>?_)
 ·obtain ⟨v,st,d,rfl,_⟩:=h
  rfl
 obtain ⟨v,st,d,rfl,hd,hl,q⟩:=h
 obtain ⟨tk,hk⟩:=C.balls
 refine ⟨_,t6 (C6 (B4 c1 hr rfl (b8 (pv 0) (b8 (Z5 (v:=.int 20) rfl hk ⟨tk,rfl⟩) f6)))),?_⟩
 exact ⟨_,rfl,v,st,d,20,rfl,hd,hl,q⟩
noncomputable def cu (c:Nat->Addr):Sp:=fun vs H Q E=>∃(v:V) (st:Addr) (d:A7) (lo hi:Int),vs=[v,.int lo,.int hi]/\Dt st H d v/\Sm lo/\Sm hi/\(Q8 lo hi d=true->Q .non H)/\(Q8 lo hi d=false->E (.ref (c 5)) none H)
noncomputable abbrev fQ:Stmt:=gI 16
theorem pQ:D8 ["thing","low","high"] ["thing","low","high"] (w6 fQ):=⟨rfl,rfl,rfl,by decide +kernel,rfl,by decide +kernel,by decide +kernel⟩
theorem qm {c:Nat->Addr}{B:Addr} (F:cH K "need_number" "need_number" fQ f fd) (R:Bu K mg c B) (c1:W5 P w K mg base 1 "is_whole" ["thing","low","high"] fL):O5 P w K mg base (lN P w) 2 f fd ["thing","low","high"] (cu c):=by
 refine F.okX pQ (fun vs H Q E h=>?_) (fun cdv A outer s H vs Q E hr h=>?_)
 ·obtain ⟨v,st,d,lo,hi,rfl,_⟩:=h
  rfl
 obtain ⟨v,st,d,lo,hi,rfl,hd,slo,shi,q1,q2⟩:=h
 refine ⟨_,t6 (T9 (bo (Z0 (B4 c1 hr rfl (b8 (pv 0) (b8 (pv 1) (b8 (pv 2) f6)))))) (t6 (mz R.e5 (R.xc 5 (by decide)) (zg (ud (xY (pv 1) (ud (xY (pv 2) CY))))) (fun σ H Q Q' m q=>?_))) J7),?_⟩
 ·obtain ⟨v1,z1,i1,z2,z3,z4,v2,z5,i2,z6,z7,z8,z9⟩:=q
  exact ⟨v1,z1,i1,z2,z3,z4,v2,z5,i2,z6,z7,z8,fun z=>m _ _ (z9 z)⟩
 refine ⟨_,rfl,_,rfl,_,rfl,v,st,d,lo,hi,rfl,hd,_,rfl,?_⟩
 cases hw:Q8 lo hi d with
 | true=>exact W0 (q1 hw)
 | false=>exact V4 ⟨_,rfl,lo,rfl,slo.1,slo.2,_,rfl,hi,rfl,shi.1,shi.2,fun z=>q2 hw⟩
noncomputable def km (c:Nat->Addr):Sp:=fun vs H Q E=>∃(u v:V) (st:Addr) (dk d:A7),vs=[u,v]/\Dt st H dk u/\(Q8 1 4 dk=false->E (.ref (c 5)) none H) /\
 (∀k,dk=.int k->1<=k->k<=4->Dt st H d v/\dB d/\(∀ds,d=.tuple ds->∀r∈ds,dB r)/\∀H',i8 H H'->Q (.bl (bQ k d)) H')
noncomputable abbrev mv:Stmt:=gI 27
theorem xP:D8 ["kinds","thing"] ["kinds","thing"] (w6 mv):=⟨rfl,rfl,rfl,by decide +kernel,rfl,by decide +kernel,by decide +kernel⟩
theorem sm1:Sm 1:=by unfold Sm;decide +kernel
theorem sm4:Sm 4:=by unfold Sm;decide +kernel
theorem yi {c:Nat->Addr} (F:cH K "is_rule" "is_rule" mv f fd) (B:Bt mg) (C:Ct mg) (c1:W5 P w K mg base 2 "are_wholes" ["thing","low","high"] df) (c2:iq P w K mg base 2 "need_number" ["thing","low","high"] (cu c)):O5 P w K mg base (lN P w) 3 f fd ["kinds","thing"] (km c):=by
 refine F.okX xP (fun vs H Q E h=>?_) (fun cdv A outer s H vs Q E hr h=>?_)
 ·obtain ⟨u,v,st,dk,d,rfl,_⟩:=h
  rfl
 obtain ⟨u,v,st,dk,d,rfl,hu,qE,qQ⟩:=h
 obtain ⟨tk,hk⟩:=C.kinds
 obtain ⟨tp,hp⟩:=C.puts
 refine ⟨_,m7 (jz (dh c2 hr rfl jB (b8 (pv 0) (b8 i9 (b8 (Z5 (v:=.int 4) rfl hk ⟨tk,rfl⟩) f6)))))
  (rV.nox (m7 (T9 (PW.pt (lg (bo (Z0 (n9 (M8 cB) rfl B.isinstance r0 (b8 (pv 1) (b8 (O8 rfl B.tuple E7) f6)))))
   (hJ (P0 gq (n9 D6 rfl B.len C4 (b8 (pv 1) f6)) (pv 0) (N6 _))))) (t6 (C6 bR)) J7)
  (t6 (C6 (n9 (Z8 rfl) rfl B.all nX (b8 (O7 (N:=["row","kinds"]) (ix:=[none,some 0]) (ifs:=[]) (tc:=X4) rfl (qg (pv 1))
   (fun s H ex=>cx (i:=0) (by decide +kernel) rfl (A5 rfl) (.inr rfl)) (fun s H ex=>O1)
   (fun s H ex=>cS (B4 c1 hr rfl (b8 (pv 0) (b8 i9 (b8 (Z5 (v:=.int 5) rfl hp ⟨tp,rfl⟩) f6)))) (cR (eF iz (n9 (lenK (K:=K) rfl) rfl B.len C4 (b8 (pv 0) f6)) (pv 1) (N6 _)))) rfl (by decide +kernel) (by rfl) (by rfl) (fun _=>rfl)) f6)))))),?_⟩
 refine ⟨_,rfl,u,st,dk,1,4,rfl,hu,sm1,sm4,fun hw=>?_,qE⟩
 obtain ⟨k,e,k1,k4⟩:=oZ hw
 subst e
 obtain rfl:=hu.unint
 obtain ⟨hd,hl,hl2,q⟩:=qQ k rfl k1 k4
 refine ⟨_,rfl,v,st,d,rfl,hd,_,rfl,?_⟩
 cases d with
 | tuple ds =>
  obtain ⟨a,xs,e,ne,ha,hds⟩:=hd.untup
  subst e
  have hlen:=hds.len
  have hl':=hl ds rfl
  refine W0 ⟨_,rfl,a,xs,rfl,.inr (.of ha),_,rfl,rfl,_,rfl,?_⟩
  have q0:=fun H' g=>q H' g
  unfold bQ at q0
  by_cases hk':(ds.length:Int)=k
  ·have e1:V.int (xs.length:Int)=V.int k:=by rw[<- hlen,hk']
   rw[decide_eq_true e1]
   refine W0 ?_
   have q1:∀H',i8 H H'->Q (.bl (ds.all (fun r=>O3 0 5 r&&decide ((bt r:Int)=k)))) H':=fun H' g=>by
    have:=q0 H' g
    simp only[decide_eq_true hk',R3] at this
    exact this
   refine ⟨_,rfl,a,rfl,⟨xs,.of ha⟩,oP (K:=K) (a:=a) (xs:=xs) (sz (by lia)) (fun i ys H2=>i8 H H2/\i<=ds.length/\ys=(ds.take i).map fun r=>V.bl (O3 0 5 r&&decide ((bt r:Int)=k))) ⟨i8.refl H,v8 _,rfl⟩ (fun i ys H2 h=>?_) (fun i ys H2 _ h=>.of (h.1 _ _ ha)) rfl (fun i ys H2 x hx h=>?_) (fun ys H2 h=>?_)⟩
   ·obtain ⟨_,hil,rfl⟩:=h
    rw[d8,v7];lia
   ·obtain ⟨hS,hil,rfl⟩:=h
    obtain ⟨d,hd',dt⟩:=hds.get hx
    have dt2:=dt.kp (hS.kp st)
    refine ⟨_,rfl,x,st,d,0,5,rfl,dt2,hl2 ds rfl d (m8 hd'),fun H3 g3=>⟨_,rfl,?_⟩⟩
    have fin:∀b:Bool,b=(O3 0 5 d&&decide ((bt d:Int)=k))->i8 H H3/\i+1<=ds.length/\((ds.take i).map fun r=>V.bl (O3 0 5 r&&decide ((bt r:Int)=k)))++[V.bl b]=(ds.take (i+1)).map fun r=>V.bl (O3 0 5 r&&decide ((bt r:Int)=k)):=fun b e=>by
     subst e
     refine ⟨hS.trans g3,(List.getElem?_eq_some_iff.mp hd').1,?_⟩
     rw[E3,hd',B0];rfl
    cases hw:O3 0 5 d with
    | false=>exact W0 (fin false (by rw[hw];rfl))
    | true =>
     obtain ⟨ns,e,_⟩:=eD hw
     subst e
     obtain ⟨b,e,_,hb⟩:=dt2.di
     subst e
     refine V4 ⟨_,rfl,b,_,rfl,.inr (.of (g3 _ _ hb)),_,rfl,rfl,?_⟩
     refine fin _ ?_
     rw[hw,R3,cA,d8]
     rw[decide_eq_decide]
     constructor
     ·intro e;injection e
     ·intro e;rw[e]
   ·obtain ⟨hS,hil,rfl⟩:=h
    intro p hp
    refine ⟨p,_,rfl,.inl (.of f9),?_,?_⟩
    ·rw[P8];exact List.all_eq_true.mpr fun _ _=>rfl
    ·have e:(((ds.take xs.length).map fun r=>V.bl (O3 0 5 r&&decide ((bt r:Int)=k))).all iZ)=ds.all (fun r=>O3 0 5 r&&decide ((bt r:Int)=k)):=by
      rw[<- hlen,E2,P8];rfl
     rw[e]
     exact q1 _ (hS.trans (i8.new hp))
  ·have e1:¬ V.int (xs.length:Int)=V.int k:=fun e=>hk' (by rw[hlen];injection e)
   rw[decide_eq_false e1]
   refine V4 ?_
   have:=q0 H (i8.refl H)
   simp only[decide_eq_false hk',P3] at this
   exact this
 | _=>exact V4 (V4 (q H (i8.refl H)))
end
theorem Gh:X1 "ValueError"=some (.type "ValueError"):=by decide +kernel
noncomputable def zX (i:Nat):List Bool:=[decide (i=0),decide (i=1),decide (i=2),decide (i=3),decide (i=4),decide (i=5),decide (i=6),decide (i=7),decide (i=8),decide (i=9)]
theorem uK (i:Nat):(zX i).length=10:=rfl
theorem Jl (i:Nat):(zX i).length<=i0:=by rw[uK];decide
theorem Jk:∀i:Nat,i<10->((zX i).map (fun b=>if b then (1:Int) else 0)).sum=1:=by decide
theorem GR:∀i:Nat,i<10->(zX i)[i]?=some true/\∀m,m<i->(zX i)[m]?=some false:=by decide
section
variable {P:j7}{w:u9}{K:m6}{mg:Str->Option b9}{base:Heap}{f:Addr}{fd:C5}
noncomputable def md:List V:=[.str "urn",.str "rule",.str "kind",.str "ball",.str "draws",.str "number",.str "not even",.str "counts",.str "not alike",.str "note"]
noncomputable def Dm:Option Nat->V
 | none=>.non
 | some i=>md.getD i .non
theorem Cp:∀i:Nat,i<10->GS md (i:Int)=some (md.getD i .non):=by
 intro i hi
 exact D7 (by rw[f7 (show i<md.length from hi),A2,f7 (show i<md.length from hi)];rfl)
noncomputable def Out (c:Nat->Addr) (H:Hp) (Q:VK) (E:XK):Option Nat->Prop
 | none=>∀v H1,i8 H H1->Q v H1
 | some i=>∀H1,i8 H H1->E (.ref (c i)) none H1
noncomputable def gR (P:j7) (w:u9) (K:m6) (mg:Str->Option b9) (base:Heap) (k:Nat) (c:Nat->Addr):Sp:=fun vs H Q _=>∃(fa:Addr) (spL:Sp) (fo:Obj) (fd:C5) (o:Option Nat),vs=[.ref fa]/\H fa=some (KN fo)/\fo.data=.func fd /\
 Aj fd ⟨[],[]⟩=pure []/\O5 P w K mg base (lN P w) k fa fd [] spL/\(∀i,o=some i->i<10)/\(∀Q' E',Out c H Q' E' o->spL [] H Q' E')/\∀H',i8 H H'->Q (Dm o) H'
noncomputable abbrev ml:Stmt:=gI 57
theorem bN:D8 ["_law_call","_law_error","e","_law_sorts","_law_words"] ["_law_call"] (w6 ml):=⟨rfl,rfl,rfl,by decide +kernel,rfl,by decide +kernel,by decide +kernel⟩
theorem ye {c:Nat->Addr}{Bs:Addr}{k:Nat} (FF:cH K "_law_refused" "_law_refused" ml f fd) (B:Bt mg) (R:Bu K mg c Bs) (hVE:mg "ValueError"=none):O5 P w K mg base dQ (k+1) f fd ["_law_call"] (gR P w K mg base k c):=by
 refine FF.ok bN (fun vs H Q E h=>?_) (fun cdv A outer s H vs Q E hr h=>?_)
 ·obtain ⟨fa,spL,fo,fd,o,rfl,_⟩:=h
  rfl
 obtain ⟨fa,spL,fo,fd',o,rfl,kn,hfd,bnd,FL,ho,hsp,q⟩:=h
 refine ⟨_,m7 (F8 (i:=1) bN.nd rfl (A5 rfl) kB)
  (m7 (Fx (k:=k) (iC:=0) (iE:=2) (iR:=1) rfl rfl hr bN.nd rfl (A5 rfl) rfl rfl rfl rfl (by decide) rfl R.eb R.bb)
  (m7 (T9 (Iy (IC (pv 1))) (t6 (C6 kB)) J7)
  (m7 (F8 (i:=3) bN.nd rfl (A5 rfl) (S3 (b8 (n9 aO rfl B.isinstance r0 (b8 (pv 1) (b8 (Z5 (v:=.ref (c 0)) rfl R.e0 rfl) f6))) (b8 (n9 aO rfl B.isinstance r0 (b8 (pv 1) (b8 (Z5 (v:=.ref (c 1)) rfl R.e1 rfl) f6))) (b8 (n9 aO rfl B.isinstance r0 (b8 (pv 1) (b8 (Z5 (v:=.ref (c 2)) rfl R.e2 rfl) f6))) (b8 (n9 aO rfl B.isinstance r0 (b8 (pv 1) (b8 (Z5 (v:=.ref (c 3)) rfl R.e3 rfl) f6))) f6))))))
  (m7 (F8 (i:=3) bN.nd rfl (A5 rfl) (B7 ql (pv 3) (S3 (b8 (n9 aO rfl B.isinstance r0 (b8 (pv 1) (b8 (Z5 (v:=.ref (c 4)) rfl R.e4 rfl) f6))) (b8 (n9 aO rfl B.isinstance r0 (b8 (pv 1) (b8 (Z5 (v:=.ref (c 5)) rfl R.e5 rfl) f6))) (b8 (n9 aO rfl B.isinstance r0 (b8 (pv 1) (b8 (Z5 (v:=.ref (c 6)) rfl R.e6 rfl) f6))) f6))))))
  (m7 (F8 (i:=3) bN.nd rfl (A5 rfl) (B7 ql (pv 3) (S3 (b8 (n9 aO rfl B.isinstance r0 (b8 (pv 1) (b8 (Z5 (v:=.ref (c 7)) rfl R.e7 rfl) f6))) (b8 (n9 aO rfl B.isinstance r0 (b8 (pv 1) (b8 (Z5 (v:=.ref (c 8)) rfl R.e8 rfl) f6))) (b8 (n9 aO rfl B.isinstance r0 (b8 (pv 1) (b8 (Z5 (v:=.ref (c 9)) rfl R.e9 rfl) f6))) f6))))))
  (m7 (T9 (PW.pt (lg (bo (Z0 (n9 aO rfl B.isinstance r0 (b8 (pv 1) (b8 (O8 rfl hVE Gh) f6)))))
   (hJ (P0 gq (n9 (cC rfl) rfl B.sum Ah (b8 (O7 (N:=["_law_one"]) (ix:=[none]) (ifs:=[]) (tc:=X4) rfl (oD (pv 3))
    (fun s H ex=>cx (i:=0) (by decide +kernel) rfl (A5 rfl) (.inr rfl)) (fun s H ex=>O1) (fun s H ex=>N5 mS rfl B.int Ai (b8 (pv 0) f6)) rfl (by decide +kernel) (by rfl) (by rfl) (fun _=>rfl)) f6)) i9 (N6 _)))))
   (t6 (C6 mC)) J7)
  (@m7 _ _ _ _ _ (@F8 _ _ 4 _ _ _ _ bN.nd rfl (A5 rfl) (@S3 _ _ _ _ (mE rfl)) rfl (.inl rfl))
  (t6 (C6 (M7 W4 (pv 4) (GI uQ PySem.F.slot_list_index PySem.F.type_list_index AM (pv 3) (b8 bR f6)) (fun _ _=>rfl))))))))))),?_⟩
 refine ⟨fa,spL,rfl,⟨fo,fd',kn,hfd,bnd,FL⟩,hsp _ _ ?_⟩
 cases o with
 | none=>exact fun v H1 g1=>⟨_,rfl,_,rfl,V4 (q H1 g1)⟩
 | some i =>
  have hi:=ho i rfl
  intro H1 g1
  refine ⟨c i,rfl,R.sub i hi,fun a oe x na=>?_⟩
  have g2:i8 H (n8 H1 a (KN oe)):=g1.trans (i8.new na)
  have ha2:n8 H1 a (KN oe) a=some (KN oe):=f9
  generalize n8 H1 a (KN oe)=H2 at g2 ha2
  refine ⟨_,rfl,_,rfl,W0 ?_⟩
  refine ⟨_,rfl,a,oe,c i,_,_,_,rfl,ha2,x,R.xi i hi,rfl,R.one i 0 hi (by decide),_,rfl,a,oe,c i,_,_,_,rfl,ha2,x,R.xi i hi,rfl,R.one i 1 hi (by decide),_,rfl,a,oe,c i,_,_,_,rfl,ha2,x,R.xi i hi,rfl,R.one i 2 hi (by decide),_,rfl,a,oe,c i,_,_,_,rfl,ha2,x,R.xi i hi,rfl,R.one i 3 hi (by decide),(by show 4<=i0;decide),fun p hp=>?_⟩
  have g3:i8 H2 (n8 H2 p (.lst [.bl (decide (i=0)),.bl (decide (i=1)),.bl (decide (i=2)),.bl (decide (i=3))])):=i8.new hp
  have hp3:n8 H2 p (.lst [.bl (decide (i=0)),.bl (decide (i=1)),.bl (decide (i=2)),.bl (decide (i=3))]) p=some (.lst [.bl (decide (i=0)),.bl (decide (i=1)),.bl (decide (i=2)),.bl (decide (i=3))]):=f9
  have ha3:=g3 _ _ ha2
  show iM _ _ _ _ (n8 H2 p (.lst [.bl (decide (i=0)),.bl (decide (i=1)),.bl (decide (i=2)),.bl (decide (i=3))]))
  generalize n8 H2 p (.lst [.bl (decide (i=0)),.bl (decide (i=1)),.bl (decide (i=2)),.bl (decide (i=3))])=H3 at g3 hp3 ha3
  refine ⟨_,rfl,_,rfl,a,oe,c i,_,_,_,rfl,ha3,x,R.xi i hi,rfl,R.one i 4 hi (by decide),_,rfl,a,oe,c i,_,_,_,rfl,ha3,x,R.xi i hi,rfl,R.one i 5 hi (by decide),_,rfl,a,oe,c i,_,_,_,rfl,ha3,x,R.xi i hi,rfl,R.one i 6 hi (by decide),(by show 3<=i0;decide),fun p2 hp2=>⟨p,p2,_,_,rfl,rfl,(by rw[A1 (v5 hp3 hp2)];exact hp3),f9,(by show 4+3<=i0;decide),fun p4 hp4=>?_⟩⟩
  obtain ⟨H5,g5,hp5,e5⟩:∃H5,i8 H3 H5/\H5 p4=some (.lst [.bl (decide (i=0)),.bl (decide (i=1)),.bl (decide (i=2)),.bl (decide (i=3)),.bl (decide (i=4)),.bl (decide (i=5)),.bl (decide (i=6))])/\H5=n8 (n8 H3 p2 (.lst [.bl (decide (i=4)),.bl (decide (i=5)),.bl (decide (i=6))])) p4 (.lst [.bl (decide (i=0)),.bl (decide (i=1)),.bl (decide (i=2)),.bl (decide (i=3)),.bl (decide (i=4)),.bl (decide (i=5)),.bl (decide (i=6))]):=⟨_,(i8.new hp2).trans (i8.new hp4),f9,rfl⟩
  show iM _ _ _ _ (n8 (n8 H3 p2 (.lst [.bl (decide (i=4)),.bl (decide (i=5)),.bl (decide (i=6))])) p4 (.lst [.bl (decide (i=0)),.bl (decide (i=1)),.bl (decide (i=2)),.bl (decide (i=3)),.bl (decide (i=4)),.bl (decide (i=5)),.bl (decide (i=6))]))
  rw[<- e5]
  clear e5
  have ha5:=g5 _ _ ha3
  refine ⟨_,rfl,_,rfl,a,oe,c i,_,_,_,rfl,ha5,x,R.xi i hi,rfl,R.one i 7 hi (by decide),_,rfl,a,oe,c i,_,_,_,rfl,ha5,x,R.xi i hi,rfl,R.one i 8 hi (by decide),_,rfl,a,oe,c i,_,_,_,rfl,ha5,x,R.xi i hi,rfl,R.one i 9 hi (by decide),(by show 3<=i0;decide),fun p5 hp5'=>⟨p4,p5,_,_,rfl,rfl,(by rw[A1 (v5 hp5 hp5')];exact hp5),f9,(by show 7+3<=i0;decide),fun p6 hp6=>?_⟩⟩
  obtain ⟨H7,g6,hl7,e7⟩:∃H7,i8 H5 H7/\H7 p6=some (.lst ((zX i).map V.bl))/\H7=n8 (n8 H5 p5 (.lst [.bl (decide (i=7)),.bl (decide (i=8)),.bl (decide (i=9))])) p6 (.lst ((zX i).map V.bl)):=⟨_,(i8.new hp5').trans (i8.new hp6),f9,rfl⟩
  show iM _ _ _ _ (n8 (n8 H5 p5 (.lst [.bl (decide (i=7)),.bl (decide (i=8)),.bl (decide (i=9))])) p6 (.lst ((zX i).map V.bl)))
  rw[<- e7]
  clear e7
  have ha7:=g6 _ _ ha5
  have g7:i8 H H7:=((g2.trans g3).trans g5).trans g6
  refine ⟨_,rfl,a,oe,c i,_,_,_,rfl,ha7,x,R.xi i hi,rfl,R.val i hi,_,rfl,W0 ?_⟩
  refine ⟨_,rfl,p6,rfl,⟨_,.of hl7⟩,wN (K:=K) (a:=p6) (xs:=(zX i).map V.bl) (by rw[d8];exact Jl i) (fun j ys H2=>i8 H7 H2/\j<=10/\ys=((zX i).take j).map fun b=>V.int (if b then 1 else 0)) ⟨i8.refl _,v8 _,rfl⟩ (fun j ys H2 h=>?_) (fun j ys H2 _ h=>.of (h.1 _ _ hl7)) rfl (fun j ys H2 v hv h=>?_) (fun ys H2 h=>?_)⟩
  ·obtain ⟨_,hj,rfl⟩:=h
   rw[d8,v7,uK];lia
  ·obtain ⟨hS,hj,rfl⟩:=h
   rw[w5] at hv
   obtain ⟨b,hb,ev⟩:=Option.map_eq_some_iff.mp hv
   subst ev
   refine ⟨_,rfl,.inr ⟨b,rfl,hS,?_,?_⟩⟩
   ·have:=(List.getElem?_eq_some_iff.mp hb).1
    rw[uK] at this
    exact this
   ·rw[E3,hb,B0];rfl
  ·obtain ⟨hS,hj,rfl⟩:=h
   intro pz hpz
   refine ⟨pz,((zX i).take ((zX i).map V.bl).length).map (fun b=>if b then 1 else 0),rfl,.inl (.of (by rw[f9,R8];rfl)),rfl,_,rfl,?_⟩
   rw[d8,E2,Jk i hi]
   refine W0 ⟨(by show 10<=i0;decide),fun pw hpw=>?_⟩
   have gz:=(hS.trans (i8.new (o:=.lst (((zX i).map fun b=>V.int (if b then 1 else 0)))) hpz)).trans (i8.new (o:=.lst md) hpw)
   refine ⟨_,rfl,_,rfl,.inl ⟨rfl,_,.of (gz _ _ hl7)⟩,p6,zX i,i,rfl,rfl,gz _ _ hl7,(GR i hi).1,(GR i hi).2,pw,_,_,_,rfl,rfl,.of f9,Cp i hi,q _ (g7.trans gz)⟩
end
variable {ns:List Int}{k:Nat}
theorem lK (h:k<ns.length):GS (ns.map V.int) (k:Int)=some (.int (ns.getD k 0)):=by
 refine D7 ?_
 rw[w5,f7 h,A2,f7 h];rfl
noncomputable def mU (x:Int) (b:Bool):Prop:=b=false->0<=x/\x<2147483647
section
variable {P:j7}{w:u9}{K:m6}{mg:Str->Option b9}{base:Heap}{f:Addr}{fd:C5}
noncomputable def ko (K:m6):Sp:=fun vs H Q _=>∃(a:Addr) (ns:List Int) (k:Nat),vs=[.ref a,.int k]/\dP K H a (ns.map V.int)/\∀x,Q (.int x) H
noncomputable abbrev mw:Stmt:=gI 39
theorem xR:D8 ["_law_script","_law_k"] ["_law_script","_law_k"] (w6 mw):=⟨rfl,rfl,rfl,by decide +kernel,rfl,by decide +kernel,by decide +kernel⟩
theorem yj (F:cH K "_law_cell_at" "_law_cell_at" mw f fd) (B:Bt mg):O5 P w K mg base dQ 1 f fd ["_law_script","_law_k"] (ko K):=by
 refine F.ok xR (fun vs H Q E h=>?_) (fun cdv A outer s H vs Q E hr h=>?_)
 ·obtain ⟨a,ns,k,rfl,_⟩:=h
  rfl
 obtain ⟨a,ns,k,rfl,ha,q⟩:=h
 refine ⟨_,m7 (T9 (P0 KZ (pv 1) (n9 D6 rfl B.len C4 (b8 (pv 0) f6)) (N6 _)) (t6 (C6 (M7 W4 (pv 0) (pv 1) (fun _ _=>rfl)))) J7)
  (t6 (C6 i9)),?_⟩
 refine ⟨_,rfl,_,rfl,a,_,rfl,.inl ha,_,_,rfl,rfl,_,rfl,?_⟩
 refine yA (fun c=>?_) (fun c=>q 0)
 have c':(k:Int)<(((ns.map V.int).length:Nat):Int):=of_decide_eq_true c
 rw[d8] at c'
 exact ⟨_,rfl,_,rfl,a,_,_,_,rfl,rfl,ha,lK (by lia),q _⟩
noncomputable def pC (K:m6):Sp:=fun vs H Q _=>∃(a:Addr) (ns:List Int) (k:Nat),vs=[.ref a,.int k]/\dP K H a (ns.map V.int)/\∀l x b,H l=none->mU x b->Q (.ref l) (n8 H l (.lst [.int x,.bl b]))
noncomputable abbrev tU:Stmt:=gI 40
theorem vG:D8 ["_law_script","_law_k","_law_cell"] ["_law_script","_law_k"] (w6 tU):=⟨rfl,rfl,rfl,by decide +kernel,rfl,by decide +kernel,by decide +kernel⟩
theorem Dv (F:cH K "_law_state" "_law_state" tU f fd) (c1:W5 P w K mg base 1 "_law_cell_at" ["_law_script","_law_k"] (ko K)):O5 P w K mg base dQ 2 f fd ["_law_script","_law_k"] (pC K):=by
 refine F.ok vG (fun vs H Q E h=>?_) (fun cdv A outer s H vs Q E hr h=>?_)
 ·obtain ⟨a,ns,k,rfl,_⟩:=h
  rfl
 obtain ⟨a,ns,k,rfl,ha,q⟩:=h
 refine ⟨_,m7 (F8 (i:=2) vG.nd rfl (A5 rfl) (B4 c1 hr rfl (b8 (pv 0) (b8 (pv 1) f6))))
  (m7 (T9 (P0 La (pv 2) (B7 kD i9 i9) (N6 _)) (t6 (C6 (S3 (b8 (B7 IE (pv 2) (B7 kD i9 i9)) (b8 bR f6))))) J7)
  (t6 (C6 (S3 (b8 (B7 ic (pv 2) i9) (b8 bR f6)))))),?_⟩
 have hp:LK 10 18:=⟨by decide,by decide,by decide⟩
 refine ⟨_,rfl,_,rfl,a,ns,k,rfl,ha,fun x=>?_⟩
 refine ⟨_,rfl,_,_,rfl,rfl,hp,_,_,rfl,rfl,_,rfl,?_⟩
 refine yA (fun c=>?_) (fun c=>?_)
 ·exact ⟨_,rfl,_,_,rfl,rfl,hp,_,_,rfl,rfl,(by show 2<=i0;decide),fun l hl=>q l _ _ hl (fun z=>by cases z)⟩
 ·exact ⟨_,rfl,_,_,rfl,rfl,(by show (0:Int)<2147483647;decide),(by show 2<=i0;decide),fun l hl=>q l _ _ hl (fun _=>⟨cF _ (by decide),aF _ (by decide)⟩)⟩
noncomputable def bI:Sp:=fun vs H Q _=>∃(l:Addr) (m x:Int) (b:Bool),vs=[.ref l,.int m]/\H l=some (.lst [.int x,.bl b])/\mU x b/\1<=m/\m<=1000 /\
 ∀(y:Nat) (x':Int),(y:Int)<m->mU x' b->Q (.int y) (n8 H l (.lst [.int x',.bl b]))
noncomputable abbrev xS:Stmt:=gI 41
theorem oB:D8 ["_law_state_here","_law_many","_law_found","_law_mixed"] ["_law_state_here","_law_many"] (w6 xS):=⟨rfl,rfl,rfl,by decide +kernel,rfl,by decide +kernel,by decide +kernel⟩
theorem FM (F:cH K "_law_take" "_law_take" xS f fd):O5 P w K mg base dQ 1 f fd ["_law_state_here","_law_many"] bI:=by
 refine F.ok oB (fun vs H Q E h=>?_) (fun cdv A outer s H vs Q E hr h=>?_)
 ·obtain ⟨l,m,x,b,rfl,_⟩:=h
  rfl
 obtain ⟨l,m,x,b,rfl,hl,hst,m1,m2,q⟩:=h
 refine ⟨_,m7 (T9 (Z0 (M7 W4 (pv 0) i9 (fun _ _=>rfl)))
   (m7 (F8 (i:=2) oB.nd rfl (A5 rfl) (B7 ic (M7 W4 (pv 0) i9 (fun _ _=>rfl)) (pv 1)))
   (m7 (uc (B7 zj (M7 W4 (pv 0) i9 (fun _ _=>rfl)) (pv 1)) (ug (pv 0) i9 kX))
   (t6 (C6 (pv 2))))) J7)
  (m7 (uc (B7 ic (B7 X8 (B7 jh (M7 W4 (pv 0) i9 (fun _ _=>rfl)) i9) i9) i9) (ug (pv 0) i9 kX))
  (m7 (F8 (i:=3) oB.nd rfl (A5 rfl) (B7 ic (B7 X8 (B7 X8 (B7 jh (M7 W4 (pv 0) i9 (fun _ _=>rfl)) (M7 W4 (pv 0) i9 (fun _ _=>rfl))) (B7 jh i9 (M7 W4 (pv 0) i9 (fun _ _=>rfl)))) i9) i9))
  (m7 (F8 (i:=3) oB.nd rfl (A5 rfl) (B7 ic (B7 X8 (B7 jh (pv 3) (pv 3)) (B7 jh i9 (pv 3))) i9))
  (t6 (C6 (B7 ic (B7 zj (pv 3) i9) (pv 1))))))),?_⟩
 have fin:∀(z x':Int),mU x' b->Q (.int (z % m)) (n8 H l (.lst [.int x',.bl b])):=fun z x' h=>by
  have h1:=cF z (show m≠0 by lia)
  have h2:=aF z (show 0<m by lia)
  have e:z % m=(((z % m).toNat:Nat):Int):=by lia
  rw[e]
  exact q _ x' (by lia) h
 refine ⟨_,rfl,l,_,_,_,rfl,rfl,.of hl,D7 (j:=1) rfl,_,rfl,?_⟩
 cases b with
 | true =>
  refine V4 ⟨_,rfl,l,_,_,_,rfl,rfl,.of hl,D7 (j:=0) rfl,_,rfl,_,_,rfl,rfl,(by lia),?_⟩
  refine ⟨_,rfl,l,_,_,_,rfl,rfl,.of hl,D7 (j:=0) rfl,_,rfl,_,_,rfl,rfl,⟨by lia,by lia⟩,_,rfl,l,_,_,0,rfl,rfl,hl,rfl,?_⟩
  exact ⟨_,rfl,fin _ _ (fun z=>by cases z)⟩
 | false =>
  obtain ⟨x0,x1⟩:=hst rfl
  refine W0 ⟨_,rfl,l,_,_,_,rfl,rfl,.of hl,D7 (j:=0) rfl,_,_,rfl,rfl,.inl ⟨by lia,by lia⟩,_,_,rfl,rfl,_,_,rfl,rfl,(by show (0:Int)<2147483647;decide),_,rfl,l,_,_,0,rfl,rfl,hl,rfl,?_⟩
  have y0:=cF (x*48271+29) (show (2147483647:Int)≠0 by decide)
  have y1:=aF (x*48271+29) (show (0:Int)<2147483647 by decide)
  show iM _ _ _ _ (n8 H l (.lst [.int ((x*48271+29) % 2147483647),.bl false]))
  generalize (x*48271+29) % 2147483647=y at y0 y1
  have hl2:n8 H l (.lst [.int y,.bl false]) l=some (.lst [.int y,.bl false]):=f9
  refine ⟨_,rfl,l,_,_,_,rfl,rfl,.of hl2,D7 (j:=0) rfl,_,rfl,l,_,_,_,rfl,rfl,.of hl2,D7 (j:=0) rfl,_,_,rfl,rfl,.inl ⟨by lia,by lia⟩,_,rfl,l,_,_,_,rfl,rfl,.of hl2,D7 (j:=0) rfl,_,_,rfl,rfl,.inr ⟨by lia,by lia⟩,_,_,rfl,rfl,_,_,rfl,rfl,_,_,rfl,rfl,(by show (0:Int)<2147483629;decide),?_⟩
  have z0:=cF (y*y+39373*y+7) (show (2147483629:Int)≠0 by decide)
  have z1:=aF (y*y+39373*y+7) (show (0:Int)<2147483629 by decide)
  generalize (y*y+39373*y+7) % 2147483629=z at z0 z1
  refine ⟨_,rfl,_,rfl,_,_,rfl,rfl,.inl ⟨by lia,by lia⟩,_,rfl,_,_,rfl,rfl,.inr ⟨by lia,by lia⟩,_,_,rfl,rfl,_,_,rfl,rfl,(by show (0:Int)<2147483587;decide),?_⟩
  exact ⟨_,rfl,_,_,rfl,rfl,⟨by decide,by decide⟩,_,rfl,_,_,rfl,rfl,(by lia),fin _ _ (fun _=>⟨y0,y1⟩)⟩
end
structure Bt2 (mg:Str->Option b9):Prop where
 any:mg "any"=none
theorem wM:X1 "any"=some (.builtin "any"):=by decide +kernel
theorem oQ:∀{ns:List Int},(∀x∈ns,0<=x)->(ns.map V.int).any iZ=decide (0<ns.sum)
 | [],_=>rfl
 | a::ns,h=>by
  have h1:=h a i4
  have h2:=Mt.fj (l:=ns) fun x hx=>h x (i3 _ hx)
  rw[A9,lV,oQ fun x hx=>h x (i3 _ hx),W6]
  show ((a != 0) || _)=_
  by_cases ha:a=0
  ·subst ha
   rw[Int.zero_add];rfl
  ·rw[bne_iff_ne.mpr ha,yU,decide_eq_true (by lia)]
noncomputable def Kl:A7->Bool
 | .int _=>true
 | _=>false
section
variable {P:j7}{w:u9}{K:m6}{mg:Str->Option b9}{base:Heap}{f:Addr}{fd:C5}
noncomputable def eP:Sp:=fun vs H Q _=>∃(v:V) (st:Addr) (d:A7),vs=[v]/\Dt st H d v/\Q (.bl (Kl d)) H
noncomputable abbrev tS:Stmt:=gI 49
theorem CH:D8 ["_law_thing"] ["_law_thing"] (w6 tS):=⟨rfl,rfl,rfl,by decide +kernel,rfl,by decide +kernel,by decide +kernel⟩
theorem Dq (F:cH K "_law_whole" "_law_whole" tS f fd) (B:Bt mg):O5 P w K mg base dQ 1 f fd ["_law_thing"] eP:=by
 refine F.ok CH (fun vs H Q E h=>?_) (fun cdv A outer s H vs Q E hr h=>?_)
 ·obtain ⟨v,st,d,rfl,_⟩:=h
  rfl
 obtain ⟨v,st,d,rfl,hd,q⟩:=h
 refine ⟨_,t6 (C6 (cS (n9 (M8 zu) rfl B.isinstance r0 (b8 (pv 0) (b8 (O8 rfl B.int Ai) f6)))
  (cR (Dg (n9 (M8 lB) rfl B.isinstance r0 (b8 (pv 0) (b8 (O8 rfl B.bool ED) f6))))))),?_⟩
 refine ⟨_,rfl,v,st,d,rfl,hd,_,rfl,?_⟩
 cases d with
 | bool b=>exact V4 ⟨_,rfl,v,st,_,rfl,hd,_,rfl,q⟩
 | int i=>exact V4 ⟨_,rfl,v,st,_,rfl,hd,_,rfl,q⟩
 | _=>exact W0 q
theorem wc {c1:Unit}{st:Addr}{H:Hp}{hi:Int}{x:V}{d:A7}{Q:VK} (dt:Dt st H d x) (q:Q (.bl (Q8 0 hi d)) H):
  GD (JJ eP (fi (U2 0) pA)) (xF (vM fun i j=>.bl (decide (i<=j))) (vM fun i j=>.bl (decide (i<=j))) (tC (.int 0)) (U2 0) (tC (.int hi))) [some x] H Q:=by
 refine ⟨_,rfl,x,st,d,rfl,dt,_,rfl,?_⟩
 cases d with
 | int i =>
  refine V4 ?_
  unfold Dt at dt
  subst dt
  refine ⟨_,rfl,0,i,rfl,rfl,_,rfl,?_⟩
  have q':Q (.bl (decide (0<=i)&&decide (i<=hi))) H:=q
  by_cases h1:0<=i
  ·rw[decide_eq_true h1,R3] at q'
   rw[decide_eq_true h1]
   exact V4 ⟨i,hi,rfl,rfl,q'⟩
  ·rw[decide_eq_false h1,P3] at q'
   rw[decide_eq_false h1]
   exact W0 q'
 | _=>exact W0 q
noncomputable abbrev mq:Stmt:=gI 50
theorem xO:D8 ["_law_thing"] ["_law_thing"] (w6 mq):=⟨rfl,rfl,rfl,by decide +kernel,rfl,by decide +kernel,by decide +kernel⟩
theorem yh (F:cH K "_law_is_urn" "_law_is_urn" mq f fd) (B:Bt mg) (B2:Bt2 mg) (c1:W5 P w K mg base 1 "_law_whole" ["_law_thing"] eP):O5 P w K mg base dQ 2 f fd ["_law_thing"] eQ:=by
 refine F.ok xO (fun vs H Q E h=>?_) (fun cdv A outer s H vs Q E hr h=>?_)
 ·obtain ⟨v,st,d,rfl,_⟩:=h
  rfl
 obtain ⟨v,st,d,rfl,hd,hl,q⟩:=h
 refine ⟨_,m7 (T9 (PW.pt (lg (bo (Z0 (n9 (M8 cB) rfl B.isinstance r0 (b8 (pv 0) (b8 (O8 rfl B.tuple E7) f6)))))
   (hJ (bo (CV jW jW i9 (n9 D6 rfl B.len C4 (b8 (pv 0) f6)) i9))))) (t6 (C6 bR)) J7)
  (t6 (C6 (cS (n9 (Z8 rfl) rfl B.all nX (b8 (O7 (N:=["_law_many"]) (ix:=[none]) (ifs:=[]) (tc:=X4) rfl (qg (pv 0)) (fun s H ex=>cx (i:=0) (by decide +kernel) rfl (A5 rfl) (.inr rfl)) (fun s H ex=>O1) (fun s H ex=>cS (B4 c1 hr rfl (b8 (pv 0) f6)) (cR (lh jW jW i9 (pv 0) i9))) rfl (by decide +kernel) (by rfl) (by rfl) (fun _=>rfl)) f6)) (cR (n9 (lJ rfl) rfl B2.any wM (b8 (pv 0) f6)))))),?_⟩
 refine ⟨_,rfl,v,st,d,rfl,hd,_,rfl,?_⟩
 have no:(∀ds,d=.tuple ds->¬ (1<=ds.length/\ds.length<=4) ∨ ds.all (Q8 0 20)=false)->cm 20 d=false:=fun h=>by
  unfold cm
  cases d with
  | tuple ds =>
   rcases h ds rfl with z|z
   ·show (ds.all (Q8 0 20)&&((decide ((1:Int)<=(ds.length:Int))&&decide ((ds.length:Int)<=4))&&_))=false
    have:(decide ((1:Int)<=(ds.length:Int))&&decide ((ds.length:Int)<=4))=false:=by
     rw[Bool.and_eq_false_iff,decide_eq_false_iff_not,decide_eq_false_iff_not];lia
    rw[this,P3,JH]
   ·show (ds.all (Q8 0 20)&&_)=false
    rw[z,P3]
  | _=>rfl
 cases d with
 | tuple ds =>
  obtain ⟨a,xs,e,ne,ha,hds⟩:=hd.untup
  subst e
  have hlen:=hds.len
  refine W0 ⟨_,rfl,a,xs,rfl,.inr (.of ha),_,_,rfl,rfl,_,rfl,?_⟩
  have qb:∀(b:Bool) (H':Hp),i8 H H'->cm 20 (.tuple ds)=b->Q (.bl b) H':=fun b H' g e=>by rw[<- e];exact q H' g
  have bad:¬ (1<=ds.length/\ds.length<=4)->Q (.bl false) H:=fun z=>qb false H (i8.refl H) (no fun ds' e=>by cases e;exact .inl z)
  rw[<- hlen]
  by_cases h1:(1:Int)<=(ds.length:Int)
  ·rw[decide_eq_true h1]
   refine V4 ⟨_,_,rfl,rfl,_,rfl,?_⟩
   by_cases h4:(ds.length:Int)<=4
   ·rw[decide_eq_true h4]
    refine W0 ⟨_,rfl,a,rfl,⟨xs,.of ha⟩,oP (K:=K) (a:=a) (xs:=xs) (sz (by lia)) (fun i ys H2=>i8 H H2/\i<=ds.length/\ys=(ds.take i).map fun d=>V.bl (Q8 0 20 d)) ⟨i8.refl H,v8 _,rfl⟩ (fun i ys H2 h=>?_) (fun i ys H2 _ h=>.of (h.1 _ _ ha)) rfl (fun i ys H2 x hx h=>?_) (fun ys H2 h=>?_)⟩
    ·obtain ⟨_,hi,rfl⟩:=h
     rw[d8,v7];lia
    ·obtain ⟨hS,hil,rfl⟩:=h
     obtain ⟨d,hd',dt⟩:=hds.get hx
     refine wc (c1:=()) (hi:=20) (dt.kp (hS.kp st)) ⟨hS,(List.getElem?_eq_some_iff.mp hd').1,?_⟩
     rw[E3,hd',B0];rfl
    ·obtain ⟨hS,hil,rfl⟩:=h
     intro p hp
     have e:(((ds.take xs.length).map fun d=>V.bl (Q8 0 20 d)).all iZ)=O3 0 20 (.tuple ds):=by
      rw[<- hlen,E2,P8];rfl
     refine ⟨p,_,rfl,.inl (.of f9),(by rw[P8];exact List.all_eq_true.mpr fun _ _=>rfl),_,rfl,?_⟩
     rw[e]
     cases hw:O3 0 20 (.tuple ds) with
     | false =>
      exact W0 (qb false _ (hS.trans (i8.new hp)) (no fun ds' e=>by cases e;exact .inr hw))
     | true =>
      obtain ⟨ns,e,hns⟩:=qP (show ds.all (Q8 0 20)=true from hw)
      subst e
      have hxs:=hds.ints_eq
      subst hxs
      have hlen2:(ns.map K8).length=ns.length:=d8 ..
      refine V4 ⟨_,rfl,a,_,rfl,.inr (.of ((hS.trans (i8.new hp)) _ _ ha)),(by rw[P8];exact List.all_eq_true.mpr fun _ _=>rfl),?_⟩
      rw[hlen2] at h1 h4
      refine qb _ _ (hS.trans (i8.new hp)) ?_
      unfold cm
      rw[cA,oA,hw,R3,decide_eq_true h1,decide_eq_true h4,R3,R3,oQ fun x hx=>(hns x hx).1]
   ·rw[decide_eq_false h4]
    exact V4 (bad fun z=>h4 (by lia))
  ·rw[decide_eq_false h1]
   exact W0 ⟨_,rfl,V4 (bad fun z=>h1 (by lia))⟩
 | _=>exact V4 (V4 (by have:=q H (i8.refl H);rw[no fun ds e=>by cases e] at this;exact this))
noncomputable def jb:Sp:=fun vs H Q _=>∃(v:V) (st:Addr) (d:A7) (k:Int),vs=[.int k,v]/\Dt st H d v/\k<=1000/\∀H',i8 H H'->Q (.bl (bQ k d)) H'
noncomputable abbrev kr:Stmt:=gI 51
theorem nu:D8 ["_law_kinds","_law_thing","_law_row"] ["_law_kinds","_law_thing"] (w6 kr):=⟨rfl,rfl,rfl,by decide +kernel,rfl,by decide +kernel,by decide +kernel⟩
theorem vW (F:cH K "_law_is_rule" "_law_is_rule" kr f fd) (B:Bt mg) (c1:W5 P w K mg base 1 "_law_whole" ["_law_thing"] eP):O5 P w K mg base dQ 2 f fd ["_law_kinds","_law_thing"] jb:=by
 refine F.ok nu (fun vs H Q E h=>?_) (fun cdv A outer s H vs Q E hr h=>?_)
 ·obtain ⟨v,st,d,k,rfl,_⟩:=h
  rfl
 obtain ⟨v,st,d,k,rfl,hd,hk1000,q⟩:=h
 refine ⟨_,m7 (T9 (PW.pt (lg (bo (Z0 (n9 (M8 cB) rfl B.isinstance r0 (b8 (pv 1) (b8 (O8 rfl B.tuple E7) f6)))))
   (hJ (P0 gq (n9 D6 rfl B.len C4 (b8 (pv 1) f6)) (pv 0) (N6 _))))) (t6 (C6 bR)) J7)
  (m7 (fq K3 rfl (qg (pv 1)) (W3 (i:=2) nu.nd rfl (A5 rfl))
   (m7 (T9 (PW.pt (lg (bo (Z0 (n9 (M8 cB) rfl B.isinstance r0 (b8 (pv 2) (b8 (O8 rfl B.tuple E7) f6)))))
   (hJ (P0 gq (n9 D6 rfl B.len C4 (b8 (pv 2) f6)) (pv 0) (N6 _))))) (t6 (C6 bR)) J7)
   (t6 (T9 (bo (Z0 (n9 (Z8 rfl) rfl B.all nX (b8 (O7 (N:=["_law_many"]) (ix:=[none]) (ifs:=[]) (tc:=X4) rfl (qg (pv 2)) (fun s H ex=>cx (i:=0) (by decide +kernel) rfl (A5 rfl) (.inr rfl)) (fun s H ex=>O1) (fun s H ex=>cS (B4 c1 hr rfl (b8 (pv 0) f6)) (cR (lh jW jW i9 (pv 0) i9))) rfl (by decide +kernel) (by rfl) (by rfl) (fun _=>rfl)) f6)))) (t6 (C6 bR)) J7))))
  (t6 (C6 bR))),?_⟩
 refine ⟨_,rfl,v,st,d,rfl,hd,_,rfl,?_⟩
 cases d with
 | tuple ds =>
  obtain ⟨a,xs,e,ne,ha,hds⟩:=hd.untup
  subst e
  have hlen:=hds.len
  have qr:∀(b:Bool) (H':Hp),i8 H H'->b=(decide ((ds.length:Int)=k)&&ds.all (fun r=>O3 0 5 r&&decide ((bt r:Int)=k)))->Q (.bl b) H':=fun b H' g e=>by
   have:=q H' g
   rw[e]
   exact this
  refine W0 ⟨_,rfl,a,xs,rfl,.inr (.of ha),_,rfl,rfl,_,rfl,?_⟩
  by_cases hk:(ds.length:Int)=k
  ·have e1:V.int (xs.length:Int)=V.int k:=by rw[<- hlen,hk]
   rw[decide_eq_true e1]
   refine W0 ⟨_,rfl,a,rfl,⟨xs,.of ha⟩,?_⟩
   refine FZ (K:=K) (a:=a) (xs:=xs) (fun i σ H2=>i8 H H2/\i<=ds.length/\(∃o,σ=[some (.int k),some (.ref a),o])/\(ds.take i).all (fun r=>O3 0 5 r&&decide ((bt r:Int)=k))=true) ⟨i8.refl H,v8 _,⟨_,rfl⟩,rfl⟩ (fun i σ H2 _ h=>.of (h.1 _ _ ha)) (fun i x σ H2 hx h=>?_) (fun σ H2 h=>?_)
   ·obtain ⟨g2,hi,⟨o,rfl⟩,hal⟩:=h
    obtain ⟨r,hd',dt0⟩:=hds.get hx
    have dt:=dt0.kp (g2.kp st)
    have bad:(O3 0 5 r&&decide ((bt r:Int)=k))=false->∀H3,i8 H H3->Q (.bl false) H3:=fun z H3 g3=>qr _ _ g3 (by
     rw[decide_eq_true hk,R3]
     refine (Bool.eq_false_iff.mpr fun y=>?_).symm
     rw[List.all_eq_true.mp y r (m8 hd')] at z
     cases z)
    refine ⟨_,rfl,x,st,r,rfl,dt,_,rfl,?_⟩
    cases r with
    | tuple rs =>
     obtain ⟨b,ys,e,_,hb,hrs⟩:=dt.untup
     subst e
     have hl2:=hrs.len
     refine W0 ⟨_,rfl,b,ys,rfl,.inr (.of hb),_,rfl,rfl,_,rfl,?_⟩
     by_cases hk2:(rs.length:Int)=k
     ·have e2:V.int (ys.length:Int)=V.int k:=by rw[<- hl2,hk2]
      rw[decide_eq_true e2]
      refine W0 ⟨_,rfl,b,rfl,⟨ys,.of hb⟩,oP (K:=K) (a:=b) (xs:=ys) (sz (by lia)) (fun j zs H3=>i8 H2 H3/\j<=rs.length/\zs=(rs.take j).map fun d=>V.bl (Q8 0 5 d)) ⟨i8.refl _,v8 _,rfl⟩ (fun j zs H3 h=>?_) (fun j zs H3 _ h=>.of (h.1 _ _ hb)) rfl (fun j zs H3 y hy h=>?_) (fun zs H3 h=>?_)⟩
      ·obtain ⟨_,hj,rfl⟩:=h
       rw[d8,v7];lia
      ·obtain ⟨g3,hj,rfl⟩:=h
       obtain ⟨d,hd3,dt3⟩:=hrs.get hy
       refine wc (c1:=()) (hi:=5) (dt3.kp (g3.kp st)) ⟨g3,(List.getElem?_eq_some_iff.mp hd3).1,?_⟩
       rw[E3,hd3,B0];rfl
      ·obtain ⟨g3,hj,rfl⟩:=h
       intro p hp
       have e:(((rs.take ys.length).map fun d=>V.bl (Q8 0 5 d)).all iZ)=O3 0 5 (.tuple rs):=by
        rw[<- hl2,E2,P8];rfl
       refine ⟨p,_,rfl,.inl (.of f9),(by rw[P8];exact List.all_eq_true.mpr fun _ _=>rfl),_,rfl,?_⟩
       rw[e]
       cases hw:O3 0 5 (.tuple rs) with
       | false =>
        refine V4 (bad ?_ _ ((g2.trans g3).trans (i8.new hp)))
        rw[hw,P3]
       | true =>
        refine W0 ⟨(g2.trans g3).trans (i8.new hp),(List.getElem?_eq_some_iff.mp hd').1,⟨_,rfl⟩,?_⟩
        rw[E3,hd',List.all_append,hal]
        show (true&&([PyData.tuple rs].all _))=true
        rw[xh,hw,show decide ((bt (.tuple rs):Int)=k)=true from decide_eq_true hk2];rfl
     ·have e2:¬ V.int (ys.length:Int)=V.int k:=fun e=>hk2 (by rw[hl2];injection e)
      rw[decide_eq_false e2]
      refine V4 (bad ?_ H2 g2)
      rw[show decide ((bt (.tuple rs):Int)=k)=false from decide_eq_false hk2,JH]
    | _=>exact V4 (V4 (bad rfl H2 g2))
   ·obtain ⟨g2,_,⟨o,rfl⟩,hal⟩:=h
    rw[<- hlen,E2] at hal
    exact qr _ _ g2 (by rw[decide_eq_true hk,hal];rfl)
  ·have e1:¬ V.int (xs.length:Int)=V.int k:=fun e=>hk (by rw[hlen];injection e)
   rw[decide_eq_false e1]
   exact V4 (qr _ _ (i8.refl H) (by rw[decide_eq_false hk];rfl))
 | _=>exact V4 (V4 (q H (i8.refl H)))
end
variable {n:Nat}
theorem uA (h:k<n):FT n (k:Int)=some k:=by
 unfold FT
 rw[if_pos (by lia),if_pos (by lia)];simp
theorem pO:∀{l:List Int}{y:Nat}{v:Int},(∀x∈l,0<=x)->0<v->y<l.length->0<(l.set y v).sum
 | [],y,_,_,_,h=>by simp at h
 | a::l,0,v,h,hv,_=>by
  rw[List.set_cons_zero,W6]
  have:=Mt.fj (l:=l) fun x hx=>h x (i3 _ hx)
  lia
 | a::l,y+1,v,h,hv,hy=>by
  rw[List.set_cons_succ,W6]
  have h1:=pO (l:=l) (y:=y) (fun x hx=>h x (i3 _ hx)) hv (by simpa using hy)
  have h2:=h a i4
  lia
noncomputable abbrev DR (rs:List (List Int)):A7:=.tuple (rs.map DI)
theorem kW (h:ns.length<=1000):dB (DI ns):=fun ds e=>by
 injection e with e
 rw[<- e,d8];exact h
variable {rs:List (List Int)}
theorem vF (h:rs.length<=1000):dB (DR rs):=fun ds e=>by
 injection e with e
 rw[<- e,d8];exact h
theorem su (h:kF n 5 rs) (hn:n<=1000):∀ds,DR rs=.tuple ds->∀r∈ds,dB r:=fun ds e r hr=>by
 injection e with e
 rw[<- e] at hr
 obtain ⟨row,hrow,e2⟩:=List.mem_map.mp hr
 rw[<- e2]
 exact kW (by rw[(h.row row hrow).len];exact hn)
theorem Eg {st:Addr}(h:Dt st H (DR rs) v) (hk:k<rs.length):
  ∃r xs b,v=.ref r/\H r=some (.tup xs)/\xs[k]?=some (.ref b)/\H b=some (.tup ((rs.getD k []).map V.int)):=by
 obtain ⟨r,xs,e,_,hr,hds⟩:=h.untup
 have hl:=hds.len
 rw[d8] at hl
 have hkx:k<xs.length:=by lia
 obtain ⟨d,hd,dt⟩:=hds.get (i:=k) (x:=xs[k]) (f7 hkx)
 rw[w5,f7 hk] at hd
 have e2:rs.getD k []=rs[k]:=by rw[A2,f7 hk];rfl
 have e3:d=DI rs[k]:=(C1 hd).symm
 subst e3
 obtain ⟨b,eb,_,hb⟩:=dt.di
 exact ⟨r,xs,b,e,hr,by rw[f7 hkx,eb],by rw[e2];exact hb⟩
theorem Fp (h:jP n 20 ns) (h1:1<=n) (h4:n<=4):cm 20 (DI ns)=true:=by
 unfold cm
 rw[cA,oA,h.len,decide_eq_true (show (1:Int)<=(n:Int) by lia),decide_eq_true (show (n:Int)<=4 by lia),decide_eq_true h.pos]
 have:O3 0 20 (DI ns)=true:=by
  show (ns.map K8).all (Q8 0 20)=true
  rw[P8]
  refine List.all_eq_true.mpr fun x hx=>?_
  have:=h.nn x hx
  show (decide ((0:Int)<=x)&&decide (x<=20))=true
  rw[decide_eq_true this.1,decide_eq_true (show x<=20 by lia)];rfl
 rw[this];rfl
theorem CS (h:kF n 5 rs):bQ n (DR rs)=true:=by
 show (decide (((rs.map DI).length:Int)=n)&&(rs.map DI).all (fun r=>O3 0 5 r&&decide ((bt r:Int)=n)))=true
 rw[d8,h.len,decide_eq_true rfl,R3,P8]
 refine List.all_eq_true.mpr fun r hr=>?_
 have hw:=h.row r hr
 show (O3 0 5 (DI r)&&decide ((bt (DI r):Int)=n))=true
 rw[cA,hw.len,decide_eq_true rfl,Bool.and_true]
 show (r.map K8).all (Q8 0 5)=true
 rw[P8]
 refine List.all_eq_true.mpr fun x hx=>?_
 have:=hw.nn x hx
 show (decide ((0:Int)<=x)&&decide (x<=5))=true
 rw[decide_eq_true this.1,decide_eq_true (show x<=5 by lia)];rfl
variable {l:Addr}{xs:List V}
theorem JM {p:Addr}{ys:List V} (hl:H l=some (.lst xs)) (hp:H p=some (.tup ys)):p≠l:=fun e=>by rw[e,hl] at hp;cases hp
theorem Ab {st:Addr}{H:Hp}{d:A7}{v:V} (h:Dt st H d v):∀n:Nat,U3 st H (u5 n d) (u5 n v)
 | 0=>U3.nil st H
 | n+1=>U3.cons h (Ab h n)
section
variable {X:Cx}
noncomputable def KI:R2:=fun x y H Q=>∃(a:Addr) (v:V) (k:Nat),x=.ref a/\y=.int (k:Int)/\H a=some (.tup [v])/\1<=k/\k<=4/\∀p H',i8 H H'->H' p=some (.tup (u5 k v))->Q (.ref p) H'
theorem Ir:jQ X (Y2 .Mult) KI:=by
 intro pins s σ H x y v u Q I rx ry h
 obtain ⟨a,v',k,rfl,rfl,ha,h1,h4,q⟩:=h
 refine FH pins s σ H _ _ v u Q I rx ry ⟨a,v',(k:Int),rfl,rfl,.of ha,by lia,by lia,fun hk=>?_,fun hk p hp=>?_⟩
 ·have hk':k=1:=by lia
  subst hk'
  exact q a H (i8.refl H) ha
 ·exact q p _ (i8.new hp) f9
noncomputable def iO:V->Option Int->Option Int->Hp->VK->Prop:=fun x lo hi H Q=>∃(a:Addr) (xs:List V),x=.ref a/\H a=some (.tup xs)/\∀p H',i8 H H'->H' p=some (.tup (jO xs lo hi))->Q (.ref p) H'
theorem sq:Ma X iO:=by
 intro pins s σ H x v vl vu lo hi sl Q I rx hs pl pu h
 obtain ⟨a,xs,rfl,ha,q⟩:=h
 refine Ib pins s σ H _ v vl vu lo hi sl Q I rx hs pl pu ⟨a,xs,rfl,.of ha,fun hw=>?_,fun hw p hp=>?_⟩
 ·refine q a H (i8.refl H) ?_
  unfold jO
  rw[hw.1,hw.2,P2,jI,E2];exact ha
 ·exact q p _ (i8.new hp) f9
end
section
variable {P:j7}{w:u9}{K:m6}{mg:Str->Option b9}{base:Heap}{f:Addr}{fd:C5}
noncomputable def aH (l:Addr) (b:Bool) (H H':Hp):Prop:=Kp l H H'/\∃x,H' l=some (.lst [.int x,.bl b])/\mU x b
variable {l:Addr}{b:Bool}{H:Hp}
theorem aH.start {x:Int} (h:H l=some (.lst [.int x,.bl b])) (ok:mU x b):aH l b H H:=⟨Kp.refl l H,x,h,ok⟩
variable {H1:Hp}
theorem aH.same {H2:Hp} (s:aH l b H H1) (g:i8 H1 H2):aH l b H H2:=by
 obtain ⟨k,x,h,ok⟩:=s
 exact ⟨k.trans (g.kp l),x,g _ _ h,ok⟩
theorem aH.new {l:Addr}{b:Bool}{H H1:Hp}{p:Addr}{o:HO} (s:aH l b H H1) (h:H1 p=none):aH l b H (n8 H1 p o):=s.same (i8.new h)
theorem aH.trans {l:Addr}{b:Bool}{H H1 H2:Hp} (s:aH l b H H1) (t:aH l b H1 H2):aH l b H H2:=⟨s.1.trans t.1,t.2⟩
variable {p:Addr}
theorem aH.ne (s:aH l b H H1) (h:H1 p=none):l≠p:=by
 obtain ⟨_,x,e,_⟩:=s
 exact v5 e h
theorem aH.go {x:Int} (s:aH l b H H1) (ok:mU x b):aH l b H (n8 H1 l (.lst [.int x,.bl b])):=⟨s.1.trans Kp.at,x,f9,ok⟩
theorem aH.neL {xs:List V} (s:aH l b H H1) (h:H1 p=some (.tup xs)):p≠l:=fun e=>by
 obtain ⟨_,x,q,_⟩:=s
 rw[e,q] at h;cases h
theorem aH.lput {o:HO} (s:aH l b H H1) (hpl:p≠l) (hpn:H p=none):aH l b H (n8 H1 p o):=by
 obtain ⟨k,x',e,ok⟩:=s
 exact ⟨fun c o hc hco=>by rw[A1 (fun z=>by rw[z,hpn] at hco;cases hco)];exact k c o hc hco,x',by rw[A1 hpl.symm];exact e,ok⟩
noncomputable def tL:Sp:=fun vs H Q _=>∃(l:Addr) (n:Nat) (x:Int) (b:Bool),vs=[.ref l,.int n]/\H l=some (.lst [.int x,.bl b])/\mU x b/\1<=n/\n<=4 /\
 ∀(p:Addr) (H':Hp) (ns:List Int),aH l b H H'->H' p=some (.tup (ns.map V.int))->Mt.jP n 20 ns->Q (.ref p) H'
noncomputable abbrev xV:Stmt:=gI 42
theorem tQ:D8 ["_law_state_here","_law_kinds","_law_most","_law_found"] ["_law_state_here","_law_kinds"] (w6 xV):=⟨rfl,rfl,rfl,by decide +kernel,rfl,by decide +kernel,by decide +kernel⟩
theorem FO (F:cH K "_law_urn_of" "_law_urn_of" xV f fd) (B:Bt mg) (B2:Bt2 mg) (c1:W5 P w K mg base 1 "_law_take" ["_law_state_here","_law_many"] bI):O5 P w K mg base dQ 2 f fd ["_law_state_here","_law_kinds"] tL:=by
 refine F.ok tQ (fun vs H Q E h=>?_) (fun cdv A outer s H vs Q E hr h=>?_)
 ·obtain ⟨l,n,x,b,rfl,_⟩:=h
  rfl
 obtain ⟨l,n,x,b,rfl,hl,hst,n1,n4,q⟩:=h
 refine ⟨_,m7 (F8 (i:=2) tQ.nd rfl (gD rfl) (M7 W4 (S3 (b8 i9 (b8 i9 (b8 i9 (b8 i9 f6))))) (B4 c1 hr rfl (b8 (pv 0) (b8 i9 f6))) (fun _ _=>rfl)))
  (m7 (nA (N:=["_law_kind","_law_state_here","_law_most"]) (ix:=[none,some 0,some 2]) (ifs:=[]) (tc:=X4) (i:=3) rfl tQ.nd rfl rfl (S2 rfl B.range (b8 (pv 1) f6))
   (fun s H ex=>cx (i:=0) (by decide +kernel) rfl (A5 rfl) (.inr rfl)) (fun s H ex=>O1) (fun s H ex=>B4 c1 hr rfl (b8 (pv 1) (b8 (pv 2) f6))) rfl (by decide +kernel) (by rfl) (by rfl) (fun _=>rfl) (by rfl))
  (m7 (T9 (P0 iz (B4 c1 hr rfl (b8 (pv 0) (b8 i9 f6))) i9 (N6 _)) (t6 (uc i9 (ug (pv 3) (B4 c1 hr rfl (b8 (pv 0) (b8 (pv 1) f6))) kX))) J7)
  (m7 (T9 (bo (Z0 (n9 (lJ rfl) rfl B2.any wM (b8 (pv 3) f6)))) (t6 (uc (B7 X8 i9 (B4 c1 hr rfl (b8 (pv 0) (b8 i9 f6)))) (ug (pv 3) (B4 c1 hr rfl (b8 (pv 0) (b8 (pv 1) f6))) kX))) J7)
  (t6 (C6 (N5 Q6 rfl B.tuple E7 (b8 (pv 3) f6))))))),?_⟩
 have s0:aH l b H H:=aH.start hl hst
 refine ⟨(by show 4<=i0;decide),fun p0 hp0=>⟨_,rfl,?_⟩⟩
 have s1:aH l b H (n8 H p0 (.lst [.int 3,.int 3,.int 6,.int 21])):=s0.new hp0
 obtain ⟨_,x1,hx1,ok1⟩:=id s1
 refine ⟨l,4,x1,b,rfl,hx1,ok1,by decide,by decide,fun y x2 hy zl=>?_⟩
 have s2:=s1.go zl
 have k2:Kp l (n8 H p0 (.lst [.int 3,.int 3,.int 6,.int 21])) (n8 (n8 H p0 (.lst [.int 3,.int 3,.int 6,.int 21])) l (.lst [.int x2,.bl b])):=Kp.at
 generalize n8 (n8 H p0 (.lst [.int 3,.int 3,.int 6,.int 21])) l (.lst [.int x2,.bl b])=H1 at s2 k2
 have hp1:H1 p0=some (.lst [.int 3,.int 3,.int 6,.int 21]):=k2 _ _ (s0.ne hp0).symm f9
 obtain ⟨m,hm,m1,m2⟩:∃m:Int,([.int 3,.int 3,.int 6,.int 21]:List V)[y]?=some (.int m)/\1<=m/\m<=21:=by
  have hy':y<4:=by lia
  match y,hy' with
  | 0,_=>exact ⟨3,rfl,by decide,by decide⟩
  | 1,_=>exact ⟨3,rfl,by decide,by decide⟩
  | 2,_=>exact ⟨6,rfl,by decide,by decide⟩
  | 3,_=>exact ⟨21,rfl,by decide,by decide⟩
 refine ⟨p0,_,_,_,rfl,rfl,.of hp1,D7 hm,?_⟩
 refine ⟨_,rfl,(n:Int),rfl,by lia,by lia,?_⟩
 refine ao (lo:=0) (n:=n) (sz (by lia)) (fun i ys H2=>aH l b H H2/\∃ns:List Int,ys=ns.map V.int/\ns.length=i/\∀z∈ns,0<=z/\z<=20)
  ⟨s2,[],rfl,rfl,by simp⟩ (fun i ys H2 h=>?_) rfl (fun i ys H2 hi h=>?_) (fun ys H2 h=>?_)
 ·obtain ⟨_,ns,rfl,hn,_⟩:=h
  rw[d8];exact hn
 ·obtain ⟨s3,ns,rfl,hn,hb⟩:=h
  obtain ⟨_,x3,hx3,ok3⟩:=id s3
  refine ⟨_,rfl,_,rfl,l,m,x3,b,rfl,hx3,ok3,m1,by lia,fun y x4 hy ok4=>?_⟩
  refine ⟨s3.go ok4,ns++[(y:Int)],by rw[B0];rfl,by rw[w9,hn];rfl,fun z hz=>?_⟩
  rcases List.mem_append.mp hz with h|h
  ·exact hb z h
  ·rw[List.mem_singleton.mp h];lia
 ·obtain ⟨s3,ns,rfl,hn,hb⟩:=h
  intro p hp
  have s4:aH l b H (n8 H2 p (.lst (ns.map V.int))):=s3.new hp
  have hpl:p≠l:=(s3.ne hp).symm
  have hpn:H p=none:=by
   cases e:H p with
   | none=>rfl
   | some o=>rw[s3.1 p o hpl e] at hp;cases hp
  have hp4:n8 H2 p (.lst (ns.map V.int)) p=some (.lst (ns.map V.int)):=f9
  show iM _ _ _ _ (n8 H2 p (.lst (ns.map V.int)))
  generalize n8 H2 p (.lst (ns.map V.int))=H3 at s4 hp4
  obtain ⟨_,x4,hx4,ok4⟩:=id s4
  refine ⟨_,rfl,l,8,x4,b,rfl,hx4,ok4,by decide,by decide,fun y8 x8 hy8 ok8=>⟨rfl,_,rfl,?_⟩⟩
  have s8:=s4.go ok8
  have k8:Kp l H3 (n8 H3 l (.lst [.int x8,.bl b])):=Kp.at
  generalize n8 H3 l (.lst [.int x8,.bl b])=H8 at s8 k8
  have hp8:=k8 _ _ hpl hp4
  refine yA (fun _=>?_) (fun _=>?_)
  ·obtain ⟨_,x9,hx9,ok9⟩:=id s8
   refine ⟨_,rfl,_,rfl,_,rfl,l,n,x9,b,rfl,hx9,ok9,by lia,by lia,fun y9 xa hy9 oka=>?_⟩
   have s9:=s8.go oka
   have k9:Kp l H8 (n8 H8 l (.lst [.int xa,.bl b])):=Kp.at
   generalize n8 H8 l (.lst [.int xa,.bl b])=H9 at s9 k9
   have hp9:=k9 _ _ hpl hp8
   have hy9':y9<ns.length:=by lia
   refine ⟨p,_,_,y9,rfl,rfl,hp9,uA (by rw[d8];exact hy9'),?_⟩
   have sA:=s9.lput (o:=.lst ((ns.map V.int).set y9 (.int 20))) hpl hpn
   have hpA:n8 H9 p (.lst ((ns.map V.int).set y9 (.int 20))) p=some (.lst ((ns.set y9 20).map V.int)):=by rw[f9,yS]
   have hnA:(ns.set y9 20).length=n:=by rw[aI];exact hn
   have hbA:∀z∈ns.set y9 20,0<=z/\z<=20:=fun z hz=>by
    rcases bK hz with h|h
    ·exact hb z h
    ·rw[h];decide
   show iM _ _ _ _ (n8 H9 p (.lst ((ns.map V.int).set y9 (.int 20))))
   generalize n8 H9 p (.lst ((ns.map V.int).set y9 (.int 20)))=HA at sA hpA
   generalize ns.set y9 20=nsA at hpA hnA hbA
   refine ⟨_,rfl,p,_,rfl,.inl (.of hpA),(by rw[P8];exact List.all_eq_true.mpr fun _ _=>rfl),_,rfl,?_⟩
   rw[oQ fun x hx=>(hbA x hx).1]
   by_cases hz:0<nsA.sum
   ·rw[decide_eq_true hz]
    refine W0 ⟨_,rfl,p,_,rfl,.inl ⟨.of hpA,fun t ht=>?_⟩⟩
    exact q t _ nsA (sA.new ht) f9 ⟨hnA,hbA,hz⟩
   ·rw[decide_eq_false hz]
    obtain ⟨_,xz,hxz,okz⟩:=id sA
    refine V4 ⟨_,rfl,l,3,xz,b,rfl,hxz,okz,by decide,by decide,fun v x5 hv ok5=>?_⟩
    have s5:=sA.go ok5
    have k5:Kp l HA (n8 HA l (.lst [.int x5,.bl b])):=Kp.at
    generalize n8 HA l (.lst [.int x5,.bl b])=H4 at s5 k5
    obtain ⟨_,x6,hx6,ok6⟩:=id s5
    refine ⟨_,_,rfl,rfl,_,rfl,_,rfl,_,rfl,l,n,x6,b,rfl,hx6,ok6,by lia,by lia,fun y x7 hy ok7=>?_⟩
    have s6:=s5.go ok7
    have k6:Kp l H4 (n8 H4 l (.lst [.int x7,.bl b])):=Kp.at
    generalize n8 H4 l (.lst [.int x7,.bl b])=H5 at s6 k6
    have hp5:H5 p=some (.lst (nsA.map V.int)):=k6 _ _ hpl (k5 _ _ hpl hpA)
    have hy':y<nsA.length:=by lia
    refine ⟨p,_,_,y,rfl,rfl,hp5,uA (by rw[d8];exact hy'),?_⟩
    refine ⟨_,rfl,p,_,rfl,.inl ⟨.of f9,fun t ht=>?_⟩⟩
    have s7:=s6.lput (o:=.lst ((nsA.map V.int).set y (.int (1+v)))) hpl hpn
    refine q t _ (nsA.set y (1+v)) (s7.new ht) (by rw[f9,yS]) ⟨by rw[aI];exact hnA,fun z hz=>?_,pO (fun z hz=>(hbA z hz).1) (by lia) hy'⟩
    rcases bK hz with h|h
    ·exact hbA z h
    ·rw[h];lia
  ·show iM _ _ _ _ H8
   refine ⟨_,rfl,p,_,rfl,.inl (.of hp8),(by rw[P8];exact List.all_eq_true.mpr fun _ _=>rfl),_,rfl,?_⟩
   rw[oQ fun x hx=>(hb x hx).1]
   by_cases hz:0<ns.sum
   ·rw[decide_eq_true hz]
    refine W0 ⟨_,rfl,p,_,rfl,.inl ⟨.of hp8,fun t ht=>?_⟩⟩
    exact q t _ ns (s8.new ht) f9 ⟨hn,hb,hz⟩
   ·rw[decide_eq_false hz]
    obtain ⟨_,xz,hxz,okz⟩:=id s8
    refine V4 ⟨_,rfl,l,3,xz,b,rfl,hxz,okz,by decide,by decide,fun v x5 hv ok5=>?_⟩
    have s5:=s8.go ok5
    have k5:Kp l H8 (n8 H8 l (.lst [.int x5,.bl b])):=Kp.at
    generalize n8 H8 l (.lst [.int x5,.bl b])=H4 at s5 k5
    obtain ⟨_,x6,hx6,ok6⟩:=id s5
    refine ⟨_,_,rfl,rfl,_,rfl,_,rfl,_,rfl,l,n,x6,b,rfl,hx6,ok6,by lia,by lia,fun y x7 hy ok7=>?_⟩
    have s6:=s5.go ok7
    have k6:Kp l H4 (n8 H4 l (.lst [.int x7,.bl b])):=Kp.at
    generalize n8 H4 l (.lst [.int x7,.bl b])=H5 at s6 k6
    have hp5:H5 p=some (.lst (ns.map V.int)):=k6 _ _ hpl (k5 _ _ hpl hp8)
    have hy':y<ns.length:=by lia
    refine ⟨p,_,_,y,rfl,rfl,hp5,uA (by rw[d8];exact hy'),?_⟩
    refine ⟨_,rfl,p,_,rfl,.inl ⟨.of f9,fun t ht=>?_⟩⟩
    have s7:=s6.lput (o:=.lst ((ns.map V.int).set y (.int (1+v)))) hpl hpn
    refine q t _ (ns.set y (1+v)) (s7.new ht) (by rw[f9,yS]) ⟨by rw[aI];exact hn,fun z hz=>?_,pO (fun z hz=>(hb z hz).1) (by lia) hy'⟩
    rcases bK hz with h|h
    ·exact hb z h
    ·rw[h];lia
end
theorem wD {y:Nat} (h:y<=xs.length):jO xs (some (y:Int)) none=xs.drop y:=by
 unfold jO
 have e1:HT.dg xs.length 0 (some (y:Int))=y:=by rw[HT.zd];lia
 rw[e1,HT.vK]
 exact G6 (by rw[K0];lia)
theorem wC {y:Nat} (h:y<=xs.length):jO xs none (some (y:Int))=xs.take y:=by
 unfold jO
 have e1:HT.dg xs.length xs.length (some (y:Int))=y:=by rw[HT.zd];lia
 rw[e1,HT.vK,P2,jI]
section
variable {P:j7}{w:u9}{K:m6}{mg:Str->Option b9}{base:Heap}{f:Addr}{fd:C5}
noncomputable def pJ:Sp:=fun vs H Q _=>∃(l:Addr) (n:Nat) (x:Int) (b:Bool),vs=[.ref l,.int n]/\H l=some (.lst [.int x,.bl b])/\mU x b/\1<=n/\n<=4 /\
 ∀(v:V) (H':Hp) (rs:List (List Int)),aH l b H H'->Dt l H' (DR rs) v->Mt.kF n 5 rs->Q v H'
noncomputable abbrev tW:Stmt:=gI 43
theorem jc:D8 ["_law_state_here","_law_kinds","_law_way","_law_more","_law_row","_law_far"] ["_law_state_here","_law_kinds"] (w6 tW):=⟨rfl,rfl,rfl,by decide +kernel,rfl,by decide +kernel,by decide +kernel⟩
theorem DB (F:cH K "_law_rule" "_law_rule" tW f fd) (B:Bt mg) (c1:W5 P w K mg base 1 "_law_take" ["_law_state_here","_law_many"] bI):O5 P w K mg base dQ 2 f fd ["_law_state_here","_law_kinds"] pJ:=by
 refine F.ok jc (fun vs H Q E h=>?_) (fun cdv A outer s H vs Q E hr h=>?_)
 ·obtain ⟨l,n,x,b,rfl,_⟩:=h
  rfl
 obtain ⟨l,n,x,b,rfl,hl,hst,n1,n4,q⟩:=h
 refine ⟨_,m7 (F8 (i:=2) jc.nd rfl (A5 rfl) (B4 c1 hr rfl (b8 (pv 0) (b8 i9 f6))))
  (m7 (F8 (i:=3) jc.nd rfl (gD rfl) (B4 c1 hr rfl (b8 (pv 0) (b8 i9 f6))))
  (m7 (T9 (P0 iz (pv 2) i9 (N6 _)) (t6 (C6 (N5 Q6 rfl B.tuple E7 (b8 (O7 (N:=["_law_kind","_law_kinds","_law_more"]) (ix:=[none,some 1,some 3]) (ifs:=[]) (tc:=X4) rfl (S2 rfl B.range (b8 (pv 1) f6)) (fun s H ex=>cx (i:=0) (by decide +kernel) rfl (gD rfl) (.inl rfl)) (fun s H ex=>O1) (fun s H ex=>(N5 (HN (K:=K) rfl) rfl B.tuple E7 (b8 (O7 (N:=["_law_one","_law_more","_law_kind"]) (ix:=[none,some 2,some 0]) (ifs:=[]) (tc:=X4) rfl (S2 rfl B.range (b8 (pv 1) f6)) (fun s H ex=>cx (i:=0) (by decide +kernel) rfl (A5 rfl) (.inr rfl)) (fun s H ex=>O1) (fun s H ex=>B7 jh (pv 1) (N5 mS rfl B.int Ai (b8 (eF iz (pv 0) (pv 2) (N6 _)) f6))) rfl (by decide +kernel) (by rfl) (by rfl) (fun _=>rfl)) f6))) rfl (by decide +kernel) (by rfl) (by rfl) (fun _=>rfl)) f6)))) J7)
  (m7 (F8 (i:=4) jc.nd rfl (gD rfl) (N5 Q6 rfl B.tuple E7 (b8 (O7 (N:=["_law_kind","_law_state_here"]) (ix:=[none,some 0]) (ifs:=[]) (tc:=X4) rfl (S2 rfl B.range (b8 (pv 1) f6)) (fun s H ex=>cx (i:=0) (by decide +kernel) rfl (A5 rfl) (.inr rfl)) (fun s H ex=>O1) (fun s H ex=>B4 c1 hr rfl (b8 (pv 1) (b8 (M7 (ixLK (K:=K) rfl) (S3 (b8 i9 (b8 i9 (b8 i9 f6)))) (B4 c1 hr rfl (b8 (pv 1) (b8 i9 f6))) (fun _ _=>rfl)) f6))) rfl (by decide +kernel) (by rfl) (by rfl) (fun _=>rfl)) f6)))
  (m7 (T9 (P0 iz (pv 2) i9 (N6 _)) (t6 (C6 (B7 Ir (C7 (b8 (pv 4) f6)) (pv 1)))) J7)
  (m7 (T9 (P0 iz (pv 2) i9 (N6 _)) (m7 (nA (N:=["_law_kind","_law_state_here","_law_kinds"]) (ix:=[none,some 0,some 1]) (ifs:=[]) (tc:=X4) (i:=5) rfl jc.nd rfl rfl (S2 rfl B.range (b8 (pv 1) f6)) (fun s H ex=>cx (i:=0) (by decide +kernel) rfl (A5 rfl) (.inr rfl)) (fun s H ex=>O1) (fun s H ex=>B4 c1 hr rfl (b8 (pv 1) (b8 (pv 2) f6))) rfl (by decide +kernel) (by rfl) (by rfl) (fun _=>rfl) (by rfl)) (t6 (C6 (N5 Q6 rfl B.tuple E7 (b8 (O7 (N:=["_law_place","_law_row"]) (ix:=[none,some 4]) (ifs:=[]) (tc:=X4) rfl (oD (pv 5)) (fun s H ex=>cx (i:=0) (by decide +kernel) rfl (A5 rfl) (.inr rfl)) (fun s H ex=>O1) (fun s H ex=>B7 jr (P5 sq (pv 1) (U4 (pv 0)) U5) (P5 sq (pv 1) U5 (U4 (pv 0)))) rfl (by decide +kernel) (by rfl) (by rfl) (fun _=>rfl)) f6))))) J7)
  (m7 (T9 (P0 iz (pv 2) i9 (N6 _)) (t6 (C6 (N5 Q6 rfl B.tuple E7 (b8 (O7 (N:=["_law_kind","_law_kinds","_law_more"]) (ix:=[none,some 1,some 3]) (ifs:=[]) (tc:=X4) rfl (S2 rfl B.range (b8 (pv 1) f6)) (fun s H ex=>cx (i:=0) (by decide +kernel) rfl (gD rfl) (.inl rfl)) (fun s H ex=>O1) (fun s H ex=>(N5 (HN (K:=K) rfl) rfl B.tuple E7 (b8 (O7 (N:=["_law_one","_law_kind","_law_kinds","_law_more"]) (ix:=[none,some 0,some 1,some 2]) (ifs:=[]) (tc:=X4) rfl (S2 rfl B.range (b8 (pv 1) f6)) (fun s H ex=>cx (i:=0) (by decide +kernel) rfl (A5 rfl) (.inr rfl)) (fun s H ex=>O1) (fun s H ex=>B7 jh (pv 3) (N5 mS rfl B.int Ai (b8 (eF iz (pv 0) (B7 ic (B7 X8 (pv 1) i9) (pv 2)) (N6 _)) f6))) rfl (by decide +kernel) (by rfl) (by rfl) (fun _=>rfl)) f6))) rfl (by decide +kernel) (by rfl) (by rfl) (fun _=>rfl)) f6)))) J7)
  (t6 (C6 (N5 Q6 rfl B.tuple E7 (b8 (O7 (N:=["_law_kind","_law_kinds","_law_state_here"]) (ix:=[none,some 1,some 0]) (ifs:=[]) (tc:=X4) rfl (S2 rfl B.range (b8 (pv 1) f6)) (fun s H ex=>cx (i:=0) (by decide +kernel) rfl (A5 rfl) (.inr rfl)) (fun s H ex=>O1) (fun s H ex=>(N5 (HN (K:=K) rfl) rfl B.tuple E7 (b8 (O7 (N:=["_law_one","_law_state_here"]) (ix:=[none,some 2]) (ifs:=[]) (tc:=X4) rfl (S2 rfl B.range (b8 (pv 1) f6)) (fun s H ex=>cx (i:=0) (by decide +kernel) rfl (A5 rfl) (.inr rfl)) (fun s H ex=>O1) (fun s H ex=>B4 c1 hr rfl (b8 (pv 1) (b8 i9 f6))) rfl (by decide +kernel) (by rfl) (by rfl) (fun _=>rfl)) f6))) rfl (by decide +kernel) (by rfl) (by rfl) (fun _=>rfl)) f6)))))))))),?_⟩
 have lo62:-(2 ^ 62)<=((n:Nat):Int):=by lia
 have hi62:((n:Nat):Int)<2 ^ 62:=by lia
 have s0:aH l b H H:=aH.start hl hst
 have fin:∀(rs:List (List Int)) (ys:List V) (H3:Hp) (p ra:Addr),aH l b H H3->rs.length=n->(∀r∈rs,Mt.EO n 5 r)->U3 l H3 (rs.map DI) ys->H3 p=none->n8 H3 p (.lst ys) ra=none->Q (.ref ra) (n8 (n8 H3 p (.lst ys)) ra (.tup ys)):=fun rs ys H3 p ra s3 h1 h2 h3 hp hra=>by
  have s4:aH l b H (n8 H3 p (.lst ys)):=s3.new hp
  exact q _ _ rs (s4.new hra) (Dt.tup (s4.ne hra).symm f9 (h3.kp ((Kp.new hp).trans (Kp.new hra)))) ⟨h1,h2⟩
 refine ⟨_,rfl,l,5,x,b,rfl,hl,hst,by decide,by decide,fun wy x1 hwy ok1=>?_⟩
 have s1:=s0.go ok1
 show iM _ _ _ _ (n8 H l (.lst [.int x1,.bl b]))
 generalize n8 H l (.lst [.int x1,.bl b])=H1 at s1
 obtain ⟨_,x2,hx2,zl⟩:=id s1
 refine ⟨_,rfl,l,6,x2,b,rfl,hx2,zl,by decide,by decide,fun mo x3 hmo ok3=>?_⟩
 have s2:=s1.go ok3
 show iM _ _ _ _ (n8 H1 l (.lst [.int x3,.bl b]))
 generalize n8 H1 l (.lst [.int x3,.bl b])=H2 at s2
 refine ⟨_,rfl,rfl,_,rfl,yA (fun _=>?_) (fun _=>?_)⟩
 ·refine ⟨_,rfl,(n:Int),rfl,lo62,hi62,?_⟩
  refine ao (lo:=0) (n:=n) (sz (by lia)) (fun i ys H3=>aH l b H H3/\∃rs:List (List Int),rs.length=i/\(∀r∈rs,Mt.EO n 5 r)/\U3 l H3 (rs.map DI) ys)
   ⟨s2,[],rfl,by simp,U3.nil _ _⟩ (fun i ys H3 h=>?_) rfl (fun i ys H3 hi h=>?_) (fun ys H3 h=>?_)
  ·obtain ⟨_,rs,hr1,_,hd⟩:=h
   rw[<- hd.len,d8];exact hr1
  ·obtain ⟨s3,rs,hr1,hr2,hd⟩:=h
   refine ⟨_,rfl,(n:Int),rfl,lo62,hi62,?_⟩
   refine ao (lo:=0) (n:=n) (sz (by lia)) (fun j zs H4=>aH l b H H4/\Kp l H3 H4/\∃r:List Int,zs=r.map V.int/\r.length=j/\∀z∈r,0<=z/\z<=5)
    ⟨s3,Kp.refl _ _,[],rfl,rfl,by simp⟩ (fun j zs H4 h=>?_) rfl (fun j zs H4 hj h=>?_) (fun zs H4 h=>?_)
   ·obtain ⟨_,_,r,rfl,hr,_⟩:=h
    rw[d8];exact hr
   ·obtain ⟨s4,k4,r,rfl,hr,hz⟩:=h
    refine ⟨_,rfl,_,rfl,_,rfl,rfl,.inr ⟨_,rfl,_,_,rfl,rfl,.inl ⟨by lia,by lia⟩,?_⟩⟩
    refine ⟨s4,k4,r++[_],by rw[B0];rfl,by rw[w9,hr];rfl,fun z hz'=>?_⟩
    rcases List.mem_append.mp hz' with h|h
    ·exact hz z h
    ·rw[List.mem_singleton.mp h]
     split <;> lia
   ·obtain ⟨s4,k4,r,rfl,hr,hz⟩:=h
    intro p hp
    have s5:aH l b H (n8 H4 p (.lst (r.map V.int))):=s4.new hp
    refine ⟨p,_,rfl,.inl ⟨.of f9,fun t ht=>?_⟩⟩
    have kk:Kp l H3 (n8 (n8 H4 p (.lst (r.map V.int))) t (.tup (r.map V.int))):=(k4.trans (Kp.new hp)).trans (Kp.new ht)
    refine ⟨s5.new ht,rs++[r],by rw[w9,hr1];rfl,fun r' hr'=>?_,?_⟩
    ·rcases List.mem_append.mp hr' with h|h
     ·exact hr2 r' h
     ·rw[List.mem_singleton.mp h];exact ⟨hr,hz⟩
    ·rw[B0]
     exact (hd.kp kk).append (U3.cons (Dt.mkI (s5.ne ht).symm f9) (U3.nil _ _))
  ·obtain ⟨s3,rs,hr1,hr2,hd⟩:=h
   exact fun p hp=>⟨p,_,rfl,.inl ⟨.of f9,fun ra hra=>fin rs ys H3 p ra s3 hr1 hr2 hd hp hra⟩⟩
 refine ⟨_,rfl,(n:Int),rfl,lo62,hi62,?_⟩
 refine ao (lo:=0) (n:=n) (sz (by lia)) (fun i ys H3=>aH l b H H3/\∃ns:List Int,ys=ns.map V.int/\ns.length=i/\∀z∈ns,0<=z/\z<=5)
  ⟨s2,[],rfl,rfl,by simp⟩ (fun i ys H3 h=>?_) rfl (fun i ys H3 hi h=>?_) (fun ys H3 h=>?_)
 ·obtain ⟨_,ns,rfl,hn,_⟩:=h
  rw[d8];exact hn
 ·obtain ⟨s3,ns,rfl,hn,hb⟩:=h
  refine ⟨_,rfl,(by show 3<=i0;decide),fun p5 hp5=>?_⟩
  have s5:aH l b H (n8 H3 p5 (.lst [.int 2,.int 3,.int 6])):=s3.new hp5
  have np5:p5≠l:=(s3.ne hp5).symm
  obtain ⟨_,x5,hx5,ok5⟩:=id s5
  refine ⟨_,rfl,l,3,x5,b,rfl,hx5,ok5,by decide,by decide,fun y x6 hy ok6=>?_⟩
  have s6:=s5.go ok6
  have k6:Kp l (n8 H3 p5 (.lst [.int 2,.int 3,.int 6])) (n8 (n8 H3 p5 (.lst [.int 2,.int 3,.int 6])) l (.lst [.int x6,.bl b])):=Kp.at
  have hp6:=k6 _ _ np5 f9
  obtain ⟨m,hm,m1,m2⟩:∃m:Int,([.int 2,.int 3,.int 6]:List V)[y]?=some (.int m)/\1<=m/\m<=6:=by
   have hy':y<3:=by lia
   match y,hy' with
   | 0,_=>exact ⟨2,rfl,by decide,by decide⟩
   | 1,_=>exact ⟨3,rfl,by decide,by decide⟩
   | 2,_=>exact ⟨6,rfl,by decide,by decide⟩
  obtain ⟨_,x7,hx7,ok7⟩:=id s6
  refine ⟨p5,_,_,_,rfl,rfl,.of hp6,D7 hm,l,m,x7,b,rfl,hx7,ok7,m1,by lia,fun y2 x8 hy2 ok8=>?_⟩
  refine ⟨s6.go ok8,ns++[(y2:Int)],by rw[B0];rfl,by rw[w9,hn];rfl,fun z hz=>?_⟩
  rcases List.mem_append.mp hz with h|h
  ·exact hb z h
  ·rw[List.mem_singleton.mp h];lia
 obtain ⟨s3,ns,rfl,hn,hb⟩:=h
 intro p3 hp3
 refine ⟨p3,_,rfl,.inl ⟨.of f9,fun rw hrw=>?_⟩⟩
 have s4:aH l b H (n8 H3 p3 (.lst (ns.map V.int))):=s3.new hp3
 have s5:=s4.new (o:=.tup (ns.map V.int)) hrw
 have hr5:n8 (n8 H3 p3 (.lst (ns.map V.int))) rw (.tup (ns.map V.int)) rw=some (.tup (ns.map V.int)):=f9
 show iM _ _ _ _ (n8 (n8 H3 p3 (.lst (ns.map V.int))) rw (.tup (ns.map V.int)))
 generalize n8 (n8 H3 p3 (.lst (ns.map V.int))) rw (.tup (ns.map V.int))=H5 at s5 hr5
 have nrw:rw≠l:=s5.neL hr5
 have hrow:Mt.EO n 5 ns:=⟨hn,hb⟩
 refine ⟨_,rfl,rfl,_,rfl,yA (fun _=>?_) (fun _=>?_)⟩
 ·refine ⟨_,rfl,(by show 1<=i0;decide),fun pa hpa=>⟨_,rfl,pa,.ref rw,n,rfl,rfl,f9,n1,n4,fun pb Hb gb hpb=>?_⟩⟩
  have g:=(i8.new (o:=.tup [.ref rw]) hpa).trans gb
  have s6:=s5.same g
  refine q _ _ (u5 n ns) s6 (Dt.tup (s6.neL hpb) hpb ?_) ⟨P1,fun r hr=>by rw[bV hr];exact hrow⟩
  rw[EI]
  exact Ab (Dt.mkI nrw (g _ _ hr5)) n
 refine ⟨_,rfl,rfl,_,rfl,yA (fun _=>?_) (fun _=>?_)⟩
 ·refine ⟨_,rfl,(n:Int),rfl,lo62,hi62,?_⟩
  refine ao (lo:=0) (n:=n) (sz (by lia)) (fun i ys H6=>aH l b H H6/\Kp l H5 H6/\∃ks:List Nat,ys=ks.map (fun (k:Nat)=>V.int k)/\ks.length=i/\∀z∈ks,z<n)
   ⟨s5,Kp.refl _ _,[],rfl,rfl,by simp⟩ (fun i ys H6 h=>?_) rfl (fun i ys H6 hi h=>?_) (fun ys H6 h=>?_)
  ·obtain ⟨_,_,ks,rfl,hk,_⟩:=h
   rw[d8];exact hk
  ·obtain ⟨s6,k6,ks,rfl,hk,hlt⟩:=h
   obtain ⟨_,x6,hx6,ok6⟩:=id s6
   refine ⟨_,rfl,_,rfl,l,n,x6,b,rfl,hx6,ok6,by lia,by lia,fun y x7 hy ok7=>?_⟩
   refine ⟨s6.go ok7,k6.trans Kp.at,ks++[y],by rw[B0];rfl,by rw[w9,hk];rfl,fun z hz=>?_⟩
   rcases List.mem_append.mp hz with h|h
   ·exact hlt z h
   ·rw[List.mem_singleton.mp h];lia
  obtain ⟨s6,k6,ks,rfl,hk,hlt⟩:=h
  intro pf hpf
  have s7:=s6.new (o:=.lst (ks.map (fun (k:Nat)=>V.int k))) hpf
  have npf:pf≠l:=(s6.ne hpf).symm
  have hf7:n8 H6 pf (.lst (ks.map (fun (k:Nat)=>V.int k))) pf=some (.lst (ks.map (fun (k:Nat)=>V.int k))):=f9
  have hr7:n8 H6 pf (.lst (ks.map (fun (k:Nat)=>V.int k))) rw=some (.tup (ns.map V.int)):=i8.new hpf _ _ (k6 _ _ nrw hr5)
  generalize n8 H6 pf (.lst (ks.map (fun (k:Nat)=>V.int k)))=H7 at s7 hf7 hr7
  refine ⟨_,rfl,pf,rfl,⟨_,.of hf7⟩,wN (K:=K) (a:=pf) (xs:=ks.map (fun (k:Nat)=>V.int k)) (by rw[d8,hk];exact sz (by lia)) (fun i ys H8=>i8 H7 H8/\i<=n/\∃rs:List (List Int),rs.length=i/\(∀r∈rs,Mt.EO n 5 r)/\U3 l H8 (rs.map DI) ys)
   ⟨i8.refl _,v8 _,[],rfl,by simp,U3.nil _ _⟩ (fun i ys H8 h=>?_) (fun i ys H8 _ h=>.of (h.1 _ _ hf7)) rfl (fun i ys H8 v hv h=>?_) (fun ys H8 h=>?_)⟩
  ·obtain ⟨_,_,rs,hr1,_,hd⟩:=h
   rw[<- hd.len,d8];exact hr1
  ·obtain ⟨g8,hin,rs,hr1,hr2,hd⟩:=h
   rw[w5] at hv
   obtain ⟨k,hk',ev⟩:=Option.map_eq_some_iff.mp hv
   subst ev
   have hik:=(List.getElem?_eq_some_iff.mp hk').1
   have hkn:=hlt k (m8 hk')
   have hr8:=g8 _ _ hr7
   have hkl:k<=(ns.map V.int).length:=by rw[d8];lia
   have ea:jO (ns.map V.int) (some (k:Int)) none=(ns.drop k).map V.int:=by rw[wD hkl,Kf]
   have eb:jO (ns.map V.int) none (some (k:Int))=(ns.take k).map V.int:=by rw[wC hkl,Ke]
   refine ⟨_,rfl,_,rfl,_,rfl,rw,_,rfl,hr8,fun p1 H9 g9 hp1=>⟨_,rfl,_,rfl,_,rfl,rw,_,rfl,g9 _ _ hr8,fun p2 HA gA hp2=>?_⟩⟩
   rw[ea] at hp1
   rw[eb] at hp2
   refine ⟨p1,p2,_,_,rfl,rfl,gA _ _ hp1,hp2,(by rw[d8,d8,K0,v7];lia),fun p HB gB hpB=>?_⟩
   have gAll:=(g9.trans gA).trans gB
   have gTot:=g8.trans gAll
   have sB:=s7.same gTot
   refine ⟨gTot,by lia,rs++[ns.drop k++ns.take k],by rw[w9,hr1];rfl,fun r' hr'=>?_,?_⟩
   ·rcases List.mem_append.mp hr' with h|h
    ·exact hr2 r' h
    ·rw[List.mem_singleton.mp h]
     refine ⟨by rw[w9,K0,v7];lia,fun z hz=>?_⟩
     have hz':z∈ns:=by
      rcases List.mem_append.mp hz with h|h
      ·exact N7 h
      ·exact C9 h
     exact hb z hz'
   ·rw[B0]
    exact (hd.kp (gAll.kp l)).append (U3.cons (Dt.mkI (sB.neL hpB) (by rw[hpB,B0])) (U3.nil _ _))
  ·obtain ⟨g8,_,rs,hr1,hr2,hd⟩:=h
   rw[d8,hk] at hr1
   exact fun p hp=>⟨p,_,rfl,.inl ⟨.of f9,fun ra hra=>fin rs ys H8 p ra (s7.same g8) hr1 hr2 hd hp hra⟩⟩
 refine ⟨_,rfl,rfl,_,rfl,yA (fun _=>?_) (fun _=>?_)⟩
 ·refine ⟨_,rfl,(n:Int),rfl,lo62,hi62,?_⟩
  refine ao (lo:=0) (n:=n) (sz (by lia)) (fun i ys H3=>aH l b H H3/\∃rs:List (List Int),rs.length=i/\(∀r∈rs,Mt.EO n 5 r)/\U3 l H3 (rs.map DI) ys)
   ⟨s5,[],rfl,by simp,U3.nil _ _⟩ (fun i ys H3 h=>?_) rfl (fun i ys H3 hi h=>?_) (fun ys H3 h=>?_)
  ·obtain ⟨_,rs,hr1,_,hd⟩:=h
   rw[<- hd.len,d8];exact hr1
  ·obtain ⟨s3,rs,hr1,hr2,hd⟩:=h
   refine ⟨_,rfl,(n:Int),rfl,lo62,hi62,?_⟩
   refine ao (lo:=0) (n:=n) (sz (by lia)) (fun j zs H4=>aH l b H H4/\Kp l H3 H4/\∃r:List Int,zs=r.map V.int/\r.length=j/\∀z∈r,0<=z/\z<=5)
    ⟨s3,Kp.refl _ _,[],rfl,rfl,by simp⟩ (fun j zs H4 h=>?_) rfl (fun j zs H4 hj h=>?_) (fun zs H4 h=>?_)
   ·obtain ⟨_,_,r,rfl,hr,_⟩:=h
    rw[d8];exact hr
   ·obtain ⟨s4,k4,r,rfl,hr,hz⟩:=h
    refine ⟨_,rfl,_,rfl,_,rfl,_,_,rfl,rfl,_,rfl,_,_,rfl,rfl,(by lia),rfl,.inr ⟨_,rfl,_,_,rfl,rfl,.inl ⟨by lia,by lia⟩,?_⟩⟩
    refine ⟨s4,k4,r++[_],by rw[B0];rfl,by rw[w9,hr];rfl,fun z hz'=>?_⟩
    rcases List.mem_append.mp hz' with h|h
    ·exact hz z h
    ·rw[List.mem_singleton.mp h]
     split <;> lia
   ·obtain ⟨s4,k4,r,rfl,hr,hz⟩:=h
    intro p hp
    have s5:aH l b H (n8 H4 p (.lst (r.map V.int))):=s4.new hp
    refine ⟨p,_,rfl,.inl ⟨.of f9,fun t ht=>?_⟩⟩
    have kk:Kp l H3 (n8 (n8 H4 p (.lst (r.map V.int))) t (.tup (r.map V.int))):=(k4.trans (Kp.new hp)).trans (Kp.new ht)
    refine ⟨s5.new ht,rs++[r],by rw[w9,hr1];rfl,fun r' hr'=>?_,?_⟩
    ·rcases List.mem_append.mp hr' with h|h
     ·exact hr2 r' h
     ·rw[List.mem_singleton.mp h];exact ⟨hr,hz⟩
    ·rw[B0]
     exact (hd.kp kk).append (U3.cons (Dt.mkI (s5.ne ht).symm f9) (U3.nil _ _))
  ·obtain ⟨s3,rs,hr1,hr2,hd⟩:=h
   exact fun p hp=>⟨p,_,rfl,.inl ⟨.of f9,fun ra hra=>fin rs ys H3 p ra s3 hr1 hr2 hd hp hra⟩⟩
 refine ⟨_,rfl,(n:Int),rfl,lo62,hi62,?_⟩
 refine ao (lo:=0) (n:=n) (sz (by lia)) (fun i ys H3=>aH l b H H3/\∃rs:List (List Int),rs.length=i/\(∀r∈rs,Mt.EO n 5 r)/\U3 l H3 (rs.map DI) ys)
  ⟨s5,[],rfl,by simp,U3.nil _ _⟩ (fun i ys H3 h=>?_) rfl (fun i ys H3 hi h=>?_) (fun ys H3 h=>?_)
 ·obtain ⟨_,rs,hr1,_,hd⟩:=h
  rw[<- hd.len,d8];exact hr1
 ·obtain ⟨s3,rs,hr1,hr2,hd⟩:=h
  refine ⟨_,rfl,(n:Int),rfl,lo62,hi62,?_⟩
  refine ao (lo:=0) (n:=n) (sz (by lia)) (fun j zs H4=>aH l b H H4/\Kp l H3 H4/\∃r:List Int,zs=r.map V.int/\r.length=j/\∀z∈r,0<=z/\z<=5)
   ⟨s3,Kp.refl _ _,[],rfl,rfl,by simp⟩ (fun j zs H4 h=>?_) rfl (fun j zs H4 hj h=>?_) (fun zs H4 h=>?_)
  ·obtain ⟨_,_,r,rfl,hr,_⟩:=h
   rw[d8];exact hr
  ·obtain ⟨s4,k4,r,rfl,hr,hz⟩:=h
   obtain ⟨_,x5,hx5,ok5⟩:=id s4
   refine ⟨_,rfl,l,6,x5,b,rfl,hx5,ok5,by decide,by decide,fun y x6 hy ok6=>?_⟩
   refine ⟨s4.go ok6,k4.trans Kp.at,r++[(y:Int)],by rw[B0];rfl,by rw[w9,hr];rfl,fun z hz'=>?_⟩
   rcases List.mem_append.mp hz' with h|h
   ·exact hz z h
   ·rw[List.mem_singleton.mp h];lia
  ·obtain ⟨s4,k4,r,rfl,hr,hz⟩:=h
   intro p hp
   have s5:aH l b H (n8 H4 p (.lst (r.map V.int))):=s4.new hp
   refine ⟨p,_,rfl,.inl ⟨.of f9,fun t ht=>?_⟩⟩
   have kk:Kp l H3 (n8 (n8 H4 p (.lst (r.map V.int))) t (.tup (r.map V.int))):=(k4.trans (Kp.new hp)).trans (Kp.new ht)
   refine ⟨s5.new ht,rs++[r],by rw[w9,hr1];rfl,fun r' hr'=>?_,?_⟩
   ·rcases List.mem_append.mp hr' with h|h
    ·exact hr2 r' h
    ·rw[List.mem_singleton.mp h];exact ⟨hr,hz⟩
   ·rw[B0]
    exact (hd.kp kk).append (U3.cons (Dt.mkI (s5.ne ht).symm f9) (U3.nil _ _))
 ·obtain ⟨s3,rs,hr1,hr2,hd⟩:=h
  exact fun p hp=>⟨p,_,rfl,.inl ⟨.of f9,fun ra hra=>fin rs ys H3 p ra s3 hr1 hr2 hd hp hra⟩⟩
end
noncomputable def zl (d:A7):Prop:=dB d/\∀ds,d=.tuple ds->∀r∈ds,dB r
noncomputable def Da (l:Addr) (H:Hp) (v:V):Prop:=∃d,Dt l H d v
noncomputable def Sh (l:Addr) (H:Hp) (v:V):Prop:=∃d,Dt l H d v/\dB d
noncomputable def Tg (l:Addr) (H:Hp) (v:V):Prop:=∃d,Dt l H d v/\zl d
theorem Da.kp {l:Addr}{H H':Hp}{v:V} (h:Da l H v) (k:Kp l H H'):Da l H' v:=let ⟨d,e⟩:=h;⟨d,e.kp k⟩
theorem Sh.kp {l:Addr}{H H':Hp}{v:V} (h:Sh l H v) (k:Kp l H H'):Sh l H' v:=let ⟨d,e,s⟩:=h;⟨d,e.kp k,s⟩
theorem Tg.kp {l:Addr}{H H':Hp}{v:V} (h:Tg l H v) (k:Kp l H H'):Tg l H' v:=let ⟨d,e,s⟩:=h;⟨d,e.kp k,s⟩
theorem Sh.da (h:Sh l H v):Da l H v:=let ⟨d,e,_⟩:=h;⟨d,e⟩
theorem Tg.sh (h:Tg l H v):Sh l H v:=let ⟨d,e,s⟩:=h;⟨d,e,s.1⟩
theorem jC (h:∀ds,d≠.tuple ds):zl d:=⟨fun ds e=>absurd e (h ds),fun ds e=>absurd e (h ds)⟩
theorem Tg.int (l:Addr) (H:Hp) (i:Int):Tg l H (.int i):=⟨_,Dt.int l H i,jC fun ds e=>by cases e⟩
theorem Tg.bl (l:Addr) (H:Hp) (b:Bool):Tg l H (.bl b):=⟨_,Dt.bl l H b,jC fun ds e=>by cases e⟩
theorem Tg.non (l:Addr) (H:Hp):Tg l H .non:=⟨_,Dt.non l H,jC fun ds e=>by cases e⟩
theorem Tg.str (l:Addr) (H:Hp) (x:Str):Tg l H (.str x):=⟨_,Dt.str l H x,jC fun ds e=>by cases e⟩
theorem yD {l:Addr}{H:Hp}:∀{xs:List V},(∀x∈xs,Da l H x)->∃ds,U3 l H ds xs
 | [],_=>⟨[],U3.nil _ _⟩
 | x::xs,h=>by
  obtain ⟨d,hd⟩:=h x i4
  obtain ⟨ds,hds⟩:=yD (xs:=xs) fun y hy=>h y (i3 _ hy)
  exact ⟨d::ds,U3.cons hd hds⟩
theorem Ef {l:Addr}{H:Hp}:∀{xs:List V},(∀x∈xs,Sh l H x)->∃ds,U3 l H ds xs/\∀d∈ds,dB d
 | [],_=>⟨[],U3.nil _ _,by simp⟩
 | x::xs,h=>by
  obtain ⟨d,hd,hs⟩:=h x i4
  obtain ⟨ds,hds,hss⟩:=Ef (xs:=xs) fun y hy=>h y (i3 _ hy)
  refine ⟨d::ds,U3.cons hd hds,fun e he=>?_⟩
  rcases List.mem_cons.mp he with z|z
  ·subst z;exact hs
  ·exact hss e z
theorem Sh.tup {l p:Addr}{H:Hp}{xs:List V} (hp:H p=some (.tup xs)) (ne:p≠l) (hl:xs.length<=1000) (h:∀x∈xs,Da l H x):Sh l H (.ref p):=by
 obtain ⟨ds,hds⟩:=yD h
 refine ⟨_,Dt.tup ne hp hds,fun es e=>?_⟩
 injection e with e
 rw[<- e,hds.len];exact hl
theorem Tg.tup {l p:Addr}{H:Hp}{xs:List V} (hp:H p=some (.tup xs)) (ne:p≠l) (hl:xs.length<=1000) (h:∀x∈xs,Sh l H x):Tg l H (.ref p):=by
 obtain ⟨ds,hds,hss⟩:=Ef h
 refine ⟨_,Dt.tup ne hp hds,fun es e=>?_,fun es e r hr=>?_⟩
 ·injection e with e
  rw[<- e,hds.len];exact hl
 ·injection e with e
  rw[<- e] at hr;exact hss r hr
theorem Tg.lst {l p:Addr}{H:Hp}{xs:List V} (hp:H p=some (.lst xs)) (ne:p≠l) (h:∀x∈xs,Da l H x):Tg l H (.ref p):=by
 obtain ⟨ds,hds⟩:=yD h
 exact ⟨_,Dt.lst ne hp hds,jC fun ds e=>by cases e⟩
theorem Tg.dct {p:Addr}{ks:List (S6 × V)} (hp:H p=some (.dK ks)) (ne:p≠l):Tg l H (.ref p):=
 ⟨.dict [],by unfold Dt;exact ⟨p,ks,rfl,ne,hp⟩,jC fun ds e=>by cases e⟩
noncomputable def cL (Pr:Hp->V->Prop) (m:Nat) (te:TE) (σ:L2.St) (H:Hp):Prop:=∀Q:VK,(∀p H' xs,i8 H H'->H' p=some (.tup xs)->(∀x∈xs,Pr H' x)->xs.length<=m->Q (.ref p) H')->te σ H Q
section
variable {Pr:Hp->V->Prop}{m m1 m2:Nat}{ta tb te:TE}{σ:L2.St}{H:Hp}
theorem cL.cat (h1:cL Pr m1 ta σ H) (h2:∀H',i8 H H'->cL Pr m2 tb σ H') (mo:∀H H' v,i8 H H'->Pr H v->Pr H' v) (hm:m1+m2<=1000):cL Pr (m1+m2) (gQ ah ta tb) σ H:=by
 intro Q q
 refine h1 _ fun p1 H1 xs g1 hp1 e1 l1=>h2 H1 g1 _ fun p2 H2 ys g2 hp2 e2 l2=>?_
 refine ⟨p1,p2,xs,ys,rfl,rfl,g2 _ _ hp1,hp2,by lia,fun p H' g hp=>q p H' _ ((g1.trans g2).trans g) hp (fun x hx=>?_) (by rw[w9];lia)⟩
 rcases List.mem_append.mp hx with z|z
 ·exact mo _ _ _ (g2.trans g) (e1 x z)
 ·exact mo _ _ _ g (e2 x z)
variable {xs:List V}
theorem DN {lo hi:Option Int}{x:V} (h:x∈jO xs lo hi):x∈xs:=N7 (C9 h)
variable {i:Nat}
theorem cL.sl {a:Addr}{tl th:TO} (hi:σ[i]?=some (some (.ref a))) (ha:H a=some (.tup xs)) (he:∀x∈xs,Pr H x) (mo:∀H H' v,i8 H H'->Pr H v->Pr H' v) (hm:xs.length<=m)
  (hl:∃o,∀R:Option Int->Hp->Prop,R o H->tl σ H R) (hh:∃o,∀R:Option Int->Hp->Prop,R o H->th σ H R):cL Pr m (va iO (U2 i) tl th) σ H:=by
 intro Q q
 obtain ⟨o1,h1⟩:=hl
 obtain ⟨o2,h2⟩:=hh
 refine ⟨_,hi,h1 _ (h2 _ ⟨a,xs,rfl,ha,fun p H' g hp=>q p H' _ g hp (fun x hx=>mo _ _ _ g (he x (DN hx))) (j0 (dD xs o1 o2) hm)⟩)⟩
theorem cL.one {v:V} (hi:σ[i]?=some (some v)) (hv:Pr H v) (mo:∀H H' v,i8 H H'->Pr H v->Pr H' v):cL Pr 1 (vB (fi (U2 i) pA)) σ H:=by
 intro Q q
 refine ⟨_,hi,by show 1<=i0;decide,fun p hp=>q p _ [v] (i8.new hp) f9 (fun x hx=>?_) (i6 _)⟩
 rw[List.mem_singleton.mp hx]
 exact mo _ _ _ (i8.new hp) hv
theorem cL.var {a:Addr}(hi:σ[i]?=some (some (.ref a))) (ha:H a=some (.tup xs)) (he:∀x∈xs,Pr H x) (hm:xs.length<=m):cL Pr m (U2 i) σ H :=
 fun Q q=>⟨_,hi,q a H xs (i8.refl H) ha he hm⟩
end
variable {σ:L2.St}
theorem dU :∃o,∀R:Option Int->Hp->Prop,R o H->W2 σ H R:=⟨none,fun R r=>r⟩
theorem fR {i:Nat}{k:Int} (h:σ[i]?=some (some (.int k))):∃o,∀R:Option Int->Hp->Prop,R o H->cn (U2 i) σ H R:=⟨some k,fun R r=>⟨_,h,k,rfl,r⟩⟩
theorem jA {i:Nat}{k:Int} (h:σ[i]?=some (some (.int k))):∃o,∀R:Option Int->Hp->Prop,R o H->cn (gQ (vM fun i j=>.int (i+j)) (U2 i) (tC (.int 1))) σ H R:=⟨some (k+1),fun R r=>⟨_,h,k,1,rfl,rfl,k+1,rfl,r⟩⟩
section
variable {P:j7}{w:u9}{K:m6}{mg:Str->Option b9}{base:Heap}{f:Addr}{fd:C5}
theorem Iz:∀y:Nat,y<12->∃k:Nat,([.int 0,.int 0,.int 0,.int 0,.int 1,.int 2,.int 3,.int 4,.int 5,.int 6,.int 7,.int 8]:List V)[y]?=some (.int k)/\k<9
 | 0,_=>⟨0,rfl,by decide⟩
 | 1,_=>⟨0,rfl,by decide⟩
 | 2,_=>⟨0,rfl,by decide⟩
 | 3,_=>⟨0,rfl,by decide⟩
 | 4,_=>⟨1,rfl,by decide⟩
 | 5,_=>⟨2,rfl,by decide⟩
 | 6,_=>⟨3,rfl,by decide⟩
 | 7,_=>⟨4,rfl,by decide⟩
 | 8,_=>⟨5,rfl,by decide⟩
 | 9,_=>⟨6,rfl,by decide⟩
 | 10,_=>⟨7,rfl,by decide⟩
 | 11,_=>⟨8,rfl,by decide⟩
noncomputable def CB:Sp:=fun vs H Q _=>∃(l ua:Addr) (x:Int) (b:Bool) (ns:List Int),vs=[.ref l,.ref ua]/\H l=some (.lst [.int x,.bl b])/\mU x b/\H ua=some (.tup (ns.map V.int))/\1<=ns.length/\ns.length<=4 /\
 ∀(v:V) (H':Hp),aH l b H H'->Tg l H' v->Q v H'
noncomputable abbrev Il:Stmt:=gI 53
theorem vJ:D8 ["_law_state_here","_law_urn","_law_at","_law_odd_here","_law_some"] ["_law_state_here","_law_urn"] (w6 Il):=⟨rfl,rfl,rfl,by decide +kernel,rfl,by decide +kernel,by decide +kernel⟩
theorem Lg (F:cH K "_law_bent_urn" "_law_bent_urn" Il f fd) (B:Bt mg) (c1:W5 P w K mg base 1 "_law_take" ["_law_state_here","_law_many"] bI):O5 P w K mg base dQ 2 f fd ["_law_state_here","_law_urn"] CB:=by
 refine F.ok vJ (fun vs H Q E h=>?_) (fun cdv A outer s H vs Q E hr h=>?_)
 ·obtain ⟨l,ua,x,b,ns,rfl,_⟩:=h
  rfl
 obtain ⟨l,ua,x,b,ns,rfl,hl,hst,hua,n1,n4,q⟩:=h
 refine ⟨_,m7 (F8 (i:=2) vJ.nd rfl (A5 rfl) (B4 c1 hr rfl (b8 (pv 0) (b8 (n9 D6 rfl B.len C4 (b8 (pv 1) f6)) f6))))
  (m7 (F8 (i:=3) vJ.nd rfl (A5 rfl) (@M7 _ _ _ _ _ _ _ W4 (@S3 _ _ _ _ (mD 7 rfl (b8 (C7 (b8 i9 f6)) (b8 (S3 (b8 i9 f6)) (b8 (B7 kD i9 i9) (b8 (B7 X8 (M7 R5 (pv 1) (pv 2) (fun _ _=>rfl)) i9) f6)))))) (B4 c1 hr rfl (b8 (pv 0) (b8 i9 f6))) (fun _ _=>rfl)))
  (m7 (F8 (i:=4) vJ.nd rfl (A5 rfl) (S3
   (b8 (B7 jr (B7 jr (P5 sq (pv 1) U5 (U4 (pv 2))) (C7 (b8 (pv 3) f6))) (P5 sq (pv 1) (U4 (B7 X8 (pv 2) i9)) U5))
   (b8 (B7 jr (B7 jr (P5 sq (pv 1) U5 (U4 (pv 2))) (C7 (b8 (pv 3) f6))) (P5 sq (pv 1) (U4 (pv 2)) U5))
   (b8 (B7 jr (P5 sq (pv 1) U5 (U4 (pv 2))) (P5 sq (pv 1) (U4 (B7 X8 (pv 2) i9)) U5))
   (b8 (N5 eK rfl B.list Z3 (b8 (pv 1) f6)) f6))))))
  (m7 (F8 (i:=4) vJ.nd rfl (A5 rfl) (B7 ql (pv 4) (S3
   (b8 (B7 Ir (C7 (b8 i9 f6)) (n9 D6 rfl B.len C4 (b8 (pv 1) f6)))
   (b8 kB (b8 (C7 (b8 (pv 1) f6)) (b8 (B7 FG (pv 1) i9) (b8 (pv 3) f6))))))))
  (t6 (C6 (uh rfl (pv 4) (B4 c1 hr rfl (b8 (pv 0) (b8 i9 f6))) (fun _ _=>rfl))))))),?_⟩
 have s0:aH l b H H:=aH.start hl hst
 have nua:ua≠l:=JM hl hua
 refine ⟨_,rfl,_,rfl,ua,_,rfl,.inr (.of hua),l,_,x,b,rfl,hl,hst,?_,?_,fun at0 x1 hat ok1=>?_⟩
 ·rw[d8];lia
 ·rw[d8];lia
 rw[d8] at hat
 have s1:=s0.go ok1
 have k1:Kp l H (n8 H l (.lst [.int x1,.bl b])):=Kp.at
 show iM _ _ _ _ (n8 H l (.lst [.int x1,.bl b]))
 generalize n8 H l (.lst [.int x1,.bl b])=H1 at s1 k1
 have hua1:=k1 _ _ nua hua
 refine ⟨(by show 1<=i0;decide),fun pt hpt=>?_⟩
 have s2:aH l b H (n8 H1 pt (.tup [.int 1])):=s1.new hpt
 have g2:i8 H1 (n8 H1 pt (.tup [.int 1])):=i8.new hpt
 have hpt2:n8 H1 pt (.tup [.int 1]) pt=some (.tup [.int 1]):=f9
 dsimp only
 generalize n8 H1 pt (.tup [.int 1])=H2 at s2 g2 hpt2
 have npt:pt≠l:=s2.neL hpt2
 refine ⟨(by show 1<=i0;decide),fun pw hpw=>?_⟩
 have s2':aH l b H (n8 H2 pw (.lst [.int 1])):=s2.new hpw
 have g2':i8 H2 (n8 H2 pw (.lst [.int 1])):=i8.new hpw
 have hpw2:n8 H2 pw (.lst [.int 1]) pw=some (.lst [.int 1]):=f9
 have npw:pw≠l:=(s2.ne hpw).symm
 dsimp only
 generalize n8 H2 pw (.lst [.int 1])=H2' at s2' g2' hpw2
 have hua2:=(g2.trans g2') _ _ hua1
 refine ⟨_,_,rfl,rfl,⟨by decide,by decide,by decide⟩,_,rfl,_,rfl,ua,_,_,_,rfl,rfl,.of hua2,lK (by lia),_,_,rfl,rfl,(by show 11<=i0;decide),fun po hpo=>?_⟩
 have s3:=s2'.new (o:=.lst ([.int 21,.int (-1),.int 20,.int 0,.bl true,.non,.str "1"]++[.ref pt,.ref pw,.int (10 ^ 29),.int (ns.getD at0 0+1)])) hpo
 have npo:po≠l:=(s2'.ne hpo).symm
 have g3:i8 H2' (n8 H2' po (.lst ([.int 21,.int (-1),.int 20,.int 0,.bl true,.non,.str "1"]++[.ref pt,.ref pw,.int (10 ^ 29),.int (ns.getD at0 0+1)]))):=i8.new hpo
 have hpo3:n8 H2' po (.lst ([.int 21,.int (-1),.int 20,.int 0,.bl true,.non,.str "1"]++[.ref pt,.ref pw,.int (10 ^ 29),.int (ns.getD at0 0+1)])) po=some (.lst ([.int 21,.int (-1),.int 20,.int 0,.bl true,.non,.str "1"]++[.ref pt,.ref pw,.int (10 ^ 29),.int (ns.getD at0 0+1)])):=f9
 show JJ bI _ _ (n8 H2' po (.lst ([.int 21,.int (-1),.int 20,.int 0,.bl true,.non,.str "1"]++[.ref pt,.ref pw,.int (10 ^ 29),.int (ns.getD at0 0+1)]))) _
 generalize hX:(([.int 21,.int (-1),.int 20,.int 0,.bl true,.non,.str "1"]++[.ref pt,.ref pw,.int (10 ^ 29),.int (ns.getD at0 0+1)]):List V)=X11 at s3 g3 hpo3
 have hX11:X11.length=11/\∀(H':Hp),H' pt=some (.tup [.int 1])->H' pw=some (.lst [.int 1])->∀y∈X11,Tg l H' y:=by
  rw[<- hX]
  refine ⟨rfl,fun H' h h' y hy=>?_⟩
  simp only[W7,bW,A0,y7,or_false] at hy
  rcases hy with e|e|e|e|e|e|e|e|e|e|e
  ·rw[e];exact Tg.int _ _ _
  ·rw[e];exact Tg.int _ _ _
  ·rw[e];exact Tg.int _ _ _
  ·rw[e];exact Tg.int _ _ _
  ·rw[e];exact Tg.bl _ _ _
  ·rw[e];exact Tg.non _ _
  ·rw[e];exact Tg.str _ _ _
  ·rw[e];exact Tg.tup h npt (by decide) fun z hz=>by rw[List.mem_singleton.mp hz];exact (Tg.int _ _ _).sh
  ·rw[e];exact Tg.lst h' npw fun z hz=>by rw[List.mem_singleton.mp hz];exact (Tg.int _ _ _).sh.da
  ·rw[e];exact Tg.int _ _ _
  ·rw[e];exact Tg.int _ _ _
 clear hX
 have hua3:=g3 _ _ hua2
 have hpt3:=(g2'.trans g3) _ _ hpt2
 have hpw3:=g3 _ _ hpw2
 generalize n8 H2' po (.lst X11)=H3 at s3 g3 hpo3 hua3 hpt3 hpw3
 obtain ⟨_,x3,hx3,ok3⟩:=id s3
 refine ⟨_,rfl,l,11,x3,b,rfl,hx3,ok3,by decide,by decide,fun y x4 hy ok4=>?_⟩
 have s4:=s3.go ok4
 have k4:Kp l H3 (n8 H3 l (.lst [.int x4,.bl b])):=Kp.at
 dsimp only
 generalize n8 H3 l (.lst [.int x4,.bl b])=H4 at s4 k4
 have hua4:=k4 _ _ nua hua3
 have hpt4:=k4 _ _ npt hpt3
 have hpw4:=k4 _ _ npw hpw3
 have hpo4:=k4 _ _ npo hpo3
 have hy11:y<X11.length:=by rw[hX11.1];lia
 refine ⟨po,_,_,X11[y],rfl,rfl,.of hpo4,D7 (f7 hy11),?_⟩
 have hod:Tg l H4 X11[y]:=hX11.2 H4 hpt4 hpw4 _ (K9 hy11)
 generalize X11[y]=od at hod
 clear hX11 hy11 hpo4 hpo3 hpt4 hpt3 hpt2 hpw4 hpw3 hpw2
 have mo:∀(H H':Hp) (v:V),i8 H H'->Sh l H v->Sh l H' v:=fun H H' v g h=>h.kp (g.kp l)
 have hxs:∀H',∀z∈ns.map V.int,Sh l H' z:=fun H' z hz=>by
  obtain ⟨i,_,e⟩:=List.mem_map.mp hz
  rw[<- e];exact (Tg.int _ _ _).sh
 have hln:(ns.map V.int).length<=4:=by rw[d8];exact n4
 have U:∀H',i8 H4 H'->H' ua=some (.tup (ns.map V.int)):=fun H' g=>g _ _ hua4
 have T1:∀H',i8 H4 H'->cL (Sh l) (4+1+4) (gQ ah (gQ ah (va iO (U2 1) W2 (cn (U2 2))) (vB (fi (U2 3) pA))) (va iO (U2 1) (cn (gQ (vM fun i j=>.int (i+j)) (U2 2) (tC (.int 1)))) W2)) [some (.ref l),some (.ref ua),some (.int at0),some od,none] H':=fun H' g =>
  cL.cat (cL.cat (cL.sl rfl (U _ g) (hxs _) mo hln dU (fR rfl)) (fun H'' g'=>cL.one rfl (hod.sh.kp ((g.trans g').kp l)) mo) mo (by decide)) (fun H'' g'=>cL.sl rfl (U _ (g.trans g')) (hxs _) mo hln (jA rfl) dU) mo (by decide)
 have T2:∀H',i8 H4 H'->cL (Sh l) (4+1+4) (gQ ah (gQ ah (va iO (U2 1) W2 (cn (U2 2))) (vB (fi (U2 3) pA))) (va iO (U2 1) (cn (U2 2)) W2)) [some (.ref l),some (.ref ua),some (.int at0),some od,none] H':=fun H' g =>
  cL.cat (cL.cat (cL.sl rfl (U _ g) (hxs _) mo hln dU (fR rfl)) (fun H'' g'=>cL.one rfl (hod.sh.kp ((g.trans g').kp l)) mo) mo (by decide)) (fun H'' g'=>cL.sl rfl (U _ (g.trans g')) (hxs _) mo hln (fR rfl) dU) mo (by decide)
 have T3:∀H',i8 H4 H'->cL (Sh l) (4+4) (gQ ah (va iO (U2 1) W2 (cn (U2 2))) (va iO (U2 1) (cn (gQ (vM fun i j=>.int (i+j)) (U2 2) (tC (.int 1)))) W2)) [some (.ref l),some (.ref ua),some (.int at0),some od,none] H':=fun H' g =>
  cL.cat (cL.sl rfl (U _ g) (hxs _) mo hln dU (fR rfl)) (fun H'' g'=>cL.sl rfl (U _ (g.trans g')) (hxs _) mo hln (jA rfl) dU) mo (by decide)
 show gQ ah _ _ _ _ _
 refine T1 H4 (i8.refl _) _ fun p1 H5 xs1 g5 hp1 e1 l1=>?_
 show gQ ah _ _ _ _ _
 refine T2 H5 g5 _ fun p2 H6 xs2 g6 hp2 e2 l2=>?_
 show gQ ah _ _ _ _ _
 refine T3 H6 (g5.trans g6) _ fun p3 H7 xs3 g7 hp3 e3 l3=>?_
 have g47:=(g5.trans g6).trans g7
 have s7:aH l b H H7:=s4.same g47
 refine ⟨_,rfl,ua,_,rfl,.inr (.of (U _ g47)),fun p4 hp4=>⟨(by show 4<=i0;decide),fun ps hps=>?_⟩⟩
 have s8:aH l b H (n8 H7 p4 (.lst (ns.map V.int))):=s7.new hp4
 have np4:p4≠l:=(s7.ne hp4).symm
 have s9:aH l b H (n8 (n8 H7 p4 (.lst (ns.map V.int))) ps (.lst [.ref p1,.ref p2,.ref p3,.ref p4])):=s8.new hps
 have nps:ps≠l:=(s8.ne hps).symm
 have g79:i8 H7 (n8 (n8 H7 p4 (.lst (ns.map V.int))) ps (.lst [.ref p1,.ref p2,.ref p3,.ref p4])):=(i8.new hp4).trans (i8.new hps)
 have hp4':n8 (n8 H7 p4 (.lst (ns.map V.int))) ps (.lst [.ref p1,.ref p2,.ref p3,.ref p4]) p4=some (.lst (ns.map V.int)):=by rw[A1 (fun e=>by rw[<- e,f9] at hps;cases hps),f9]
 have hps':n8 (n8 H7 p4 (.lst (ns.map V.int))) ps (.lst [.ref p1,.ref p2,.ref p3,.ref p4]) ps=some (.lst [.ref p1,.ref p2,.ref p3,.ref p4]):=f9
 show iM _ _ _ _ (n8 (n8 H7 p4 (.lst (ns.map V.int))) ps (.lst [.ref p1,.ref p2,.ref p3,.ref p4]))
 generalize n8 (n8 H7 p4 (.lst (ns.map V.int))) ps (.lst [.ref p1,.ref p2,.ref p3,.ref p4])=H9 at s9 g79 hp4' hps'
 have tg:∀{p:Addr}{xs:List V}{m:Nat}{Ha:Hp},i8 Ha H9->Ha p=some (.tup xs)->(∀z∈xs,Sh l Ha z)->xs.length<=m->m<=1000->Tg l H9 (.ref p):=fun {p xs m Ha} g h e lm hm=>Tg.tup (g _ _ h) (s9.neL (g _ _ h)) (by lia) fun z hz=>mo _ _ _ g (e z hz)
 have t1:Tg l H9 (.ref p1):=tg ((g6.trans g7).trans g79) hp1 e1 l1 (by decide)
 have t2:Tg l H9 (.ref p2):=tg (g7.trans g79) hp2 e2 l2 (by decide)
 have t3:Tg l H9 (.ref p3):=tg g79 hp3 e3 l3 (by decide)
 have t4:Tg l H9 (.ref p4):=Tg.lst hp4' np4 fun z hz=>(hxs _ z hz).da
 have hod9:Tg l H9 od:=hod.kp ((g47.trans g79).kp l)
 have hua9:=U _ (g47.trans g79)
 clear T1 T2 T3 U
 refine ⟨_,rfl,(by show 1<=i0;decide),fun q0 hq0=>?_⟩
 have gA:i8 H9 (n8 H9 q0 (.tup [.int 0])):=i8.new hq0
 have hA:n8 H9 q0 (.tup [.int 0]) q0=some (.tup [.int 0]):=f9
 dsimp only
 generalize n8 H9 q0 (.tup [.int 0])=HA at gA hA
 refine ⟨_,rfl,ua,_,rfl,.inr (.of (gA _ _ hua9)),q0,.int 0,ns.length,rfl,(by rw[d8]),hA,n1,n4,fun pa HB gB hpa=>?_⟩
 refine ⟨_,rfl,(by show 1<=i0;decide),fun pf hpf=>?_⟩
 have gE:i8 HB (n8 HB pf (.tup [.ref ua])):=i8.new hpf
 have hE:n8 HB pf (.tup [.ref ua]) pf=some (.tup [.ref ua]):=f9
 dsimp only
 generalize n8 HB pf (.tup [.ref ua])=HE at gE hE
 have g9E:=(gA.trans gB).trans gE
 refine ⟨_,rfl,ua,_,rfl,rfl,g9E _ _ hua9,(by rw[d8];exact n1),hln,fun pg HF gF hpg=>⟨_,rfl,(by show 5<=i0;decide),fun ph hph=>?_⟩⟩
 have g9F:=g9E.trans gF
 have s9F:=s9.same g9F
 have hps1:=g9F _ _ hps'
 refine ⟨ps,ph,_,_,rfl,rfl,(by rw[A1 (v5 hps1 hph)];exact hps1),f9,(by show 4+5<=i0;decide),fun pz hpz=>?_⟩
 have gG:i8 HF (n8 (n8 HF ph (.lst [.ref pa,.non,.ref pf,.ref pg,od])) pz (.lst ([.ref p1,.ref p2,.ref p3,.ref p4]++[.ref pa,.non,.ref pf,.ref pg,od]))):=(i8.new hph).trans (i8.new hpz)
 have hz:n8 (n8 HF ph (.lst [.ref pa,.non,.ref pf,.ref pg,od])) pz (.lst ([.ref p1,.ref p2,.ref p3,.ref p4]++[.ref pa,.non,.ref pf,.ref pg,od])) pz=some (.lst ([.ref p1,.ref p2,.ref p3,.ref p4]++[.ref pa,.non,.ref pf,.ref pg,od])):=f9
 have nz:pz≠l:=((s9F.new hph).ne hpz).symm
 have sG:=s9F.same gG
 show HQ _ _ _ (n8 (n8 HF ph (.lst [.ref pa,.non,.ref pf,.ref pg,od])) pz (.lst ([.ref p1,.ref p2,.ref p3,.ref p4]++[.ref pa,.non,.ref pf,.ref pg,od])))
 generalize n8 (n8 HF ph (.lst [.ref pa,.non,.ref pf,.ref pg,od])) pz (.lst ([.ref p1,.ref p2,.ref p3,.ref p4]++[.ref pa,.non,.ref pf,.ref pg,od]))=HG at gG hz sG
 have all:∀y∈([.ref p1,.ref p2,.ref p3,.ref p4]++[.ref pa,.non,.ref pf,.ref pg,od]:List V),Tg l HG y:=fun y hy=>by
  simp only[W7,bW,A0,y7,or_false] at hy
  have k9:=(g9F.trans gG).kp l
  rcases hy with e|e|e|e|e|e|e|e|e
  ·rw[e];exact t1.kp k9
  ·rw[e];exact t2.kp k9
  ·rw[e];exact t3.kp k9
  ·rw[e];exact t4.kp k9
  ·rw[e]
   have h:=((gE.trans gF).trans gG) _ _ hpa
   exact Tg.tup h (sG.neL h) (by rw[P1];lia) fun z hz=>by rw[bV hz];exact (Tg.int _ _ _).sh
  ·rw[e];exact Tg.non _ _
  ·rw[e]
   have h:=(gF.trans gG) _ _ hE
   have hu:=(g9F.trans gG) _ _ hua9
   exact Tg.tup h (sG.neL h) (by show 1<=1000;decide) fun z hz=>by rw[List.mem_singleton.mp hz];exact Sh.tup hu (sG.neL hu) (by lia) fun z' hz'=>(hxs _ z' hz').da
  ·rw[e]
   have h:=gG _ _ hpg
   refine Tg.tup h (sG.neL h) (by simp[Z4];lia) fun z hz=>?_
   obtain ⟨ys,h1,h2⟩:=List.mem_flatten.mp hz
   rw[bV h1] at h2
   exact hxs _ z h2
  ·rw[e];exact hod9.kp k9
 generalize hL9:([.ref p1,.ref p2,.ref p3,.ref p4]++[.ref pa,.non,.ref pf,.ref pg,od]:List V)=L9 at hz all
 have hlen9:L9.length=9:=by rw[<- hL9];rfl
 refine ⟨_,rfl,(by show 12<=i0;decide),fun pk hpk=>?_⟩
 have sH:=sG.new (o:=.lst [.int 0,.int 0,.int 0,.int 0,.int 1,.int 2,.int 3,.int 4,.int 5,.int 6,.int 7,.int 8]) hpk
 have npk:pk≠l:=(sG.ne hpk).symm
 have kH:Kp l HG (n8 HG pk (.lst [.int 0,.int 0,.int 0,.int 0,.int 1,.int 2,.int 3,.int 4,.int 5,.int 6,.int 7,.int 8])):=Kp.new hpk
 have hk:n8 HG pk (.lst [.int 0,.int 0,.int 0,.int 0,.int 1,.int 2,.int 3,.int 4,.int 5,.int 6,.int 7,.int 8]) pk=some (.lst [.int 0,.int 0,.int 0,.int 0,.int 1,.int 2,.int 3,.int 4,.int 5,.int 6,.int 7,.int 8]):=f9
 obtain ⟨_,xH,hxH,okH⟩:=id sH
 refine ⟨_,rfl,l,12,xH,b,rfl,hxH,okH,by decide,by decide,fun y xI hy okI=>?_⟩
 have sI:=sH.go okI
 have kI:Kp l (n8 HG pk (.lst [.int 0,.int 0,.int 0,.int 0,.int 1,.int 2,.int 3,.int 4,.int 5,.int 6,.int 7,.int 8])) (n8 (n8 HG pk (.lst [.int 0,.int 0,.int 0,.int 0,.int 1,.int 2,.int 3,.int 4,.int 5,.int 6,.int 7,.int 8])) l (.lst [.int xI,.bl b])):=Kp.at
 have hk2:=kI _ _ npk hk
 have hz2:=(kH.trans kI) _ _ nz hz
 obtain ⟨k,hk3,hk4⟩:=Iz y (by lia)
 refine ⟨pk,_,_,_,rfl,rfl,.of hk2,D7 hk3,pz,_,_,L9[k]'(by lia),rfl,rfl,.of hz2,D7 (f7 _),q _ _ sI ((all _ (K9 _)).kp (kH.trans kI))⟩
end
section
variable {P:j7}{w:u9}{K:m6}{mg:Str->Option b9}{base:Heap}{f:Addr}{fd:C5}
theorem KR:∀y:Nat,y<8->∃k:Nat,([.int 0,.int 0,.int 0,.int 0,.int 1,.int 2,.int 3,.int 4]:List V)[y]?=some (.int k)/\k<5
 | 0,_=>⟨0,rfl,by decide⟩
 | 1,_=>⟨0,rfl,by decide⟩
 | 2,_=>⟨0,rfl,by decide⟩
 | 3,_=>⟨0,rfl,by decide⟩
 | 4,_=>⟨1,rfl,by decide⟩
 | 5,_=>⟨2,rfl,by decide⟩
 | 6,_=>⟨3,rfl,by decide⟩
 | 7,_=>⟨4,rfl,by decide⟩
theorem IA:∀y:Nat,y<11->∃k:Nat,([.int 0,.int 0,.int 0,.int 0,.int 0,.int 1,.int 2,.int 3,.int 4,.int 5,.int 6]:List V)[y]?=some (.int k)/\k<7
 | 0,_=>⟨0,rfl,by decide⟩
 | 1,_=>⟨0,rfl,by decide⟩
 | 2,_=>⟨0,rfl,by decide⟩
 | 3,_=>⟨0,rfl,by decide⟩
 | 4,_=>⟨0,rfl,by decide⟩
 | 5,_=>⟨1,rfl,by decide⟩
 | 6,_=>⟨2,rfl,by decide⟩
 | 7,_=>⟨3,rfl,by decide⟩
 | 8,_=>⟨4,rfl,by decide⟩
 | 9,_=>⟨5,rfl,by decide⟩
 | 10,_=>⟨6,rfl,by decide⟩
noncomputable def CC:Sp:=fun vs H Q _=>∃(l:Addr) (rv:V) (x:Int) (b:Bool) (n:Nat) (rs:List (List Int)),vs=[.ref l,rv]/\H l=some (.lst [.int x,.bl b])/\mU x b/\Dt l H (DR rs) rv/\Mt.kF n 5 rs/\1<=n/\n<=4 /\
 ∀(v:V) (H':Hp),aH l b H H'->Tg l H' v->Q v H'
noncomputable abbrev Im:Stmt:=gI 54
theorem pS:D8 ["_law_state_here","_law_rule_here","_law_at","_law_k","_law_row","_law_odd_here","_law_rows","_law_one","_law_some"] ["_law_state_here","_law_rule_here"] (w6 Im):=⟨rfl,rfl,rfl,by decide +kernel,rfl,by decide +kernel,by decide +kernel⟩
theorem Lh (F:cH K "_law_bent_rule" "_law_bent_rule" Im f fd) (B:Bt mg) (c1:W5 P w K mg base 1 "_law_take" ["_law_state_here","_law_many"] bI):O5 P w K mg base dQ 2 f fd ["_law_state_here","_law_rule_here"] CC:=by
 refine F.ok pS (fun vs H Q E h=>?_) (fun cdv A outer s H vs Q E hr h=>?_)
 ·obtain ⟨l,rv,x,b,n,rs,rfl,_⟩:=h
  rfl
 obtain ⟨l,rv,x,b,n,rs,rfl,hl,hst,hrd,hR,n1,n4,q⟩:=h
 refine ⟨_,m7 (qe (i:=2) (j:=3) rfl pS.nd rfl rfl (by decide) rfl rfl (b8 (B4 c1 hr rfl (b8 (pv 0) (b8 (n9 D6 rfl B.len C4 (b8 (pv 1) f6)) f6))) (b8 (B4 c1 hr rfl (b8 (pv 0) (b8 (n9 D6 rfl B.len C4 (b8 (pv 1) f6)) f6))) f6)) rfl)
  (m7 (F8 (i:=4) pS.nd rfl (A5 rfl) (M7 R5 (pv 1) (pv 2) (fun _ _=>rfl)))
  (m7 (F8 (i:=5) pS.nd rfl (A5 rfl) (@M7 _ _ _ _ _ _ _ W4 (@S3 _ _ _ _ (mD 7 rfl (b8 (C7 (b8 i9 f6)) (b8 (B7 kD i9 i9) (b8 (M7 R5 (pv 4) (pv 3) (fun _ _=>rfl)) f6))))) (B4 c1 hr rfl (b8 (pv 0) (b8 i9 f6))) (fun _ _=>rfl)))
  (m7 (F8 (i:=6) pS.nd rfl (A5 rfl) (S3
   (b8 (B7 jr (B7 jr (P5 sq (pv 4) U5 (U4 (pv 3))) (C7 (b8 (pv 5) f6))) (P5 sq (pv 4) (U4 (B7 X8 (pv 3) i9)) U5))
   (b8 (B7 jr (B7 jr (P5 sq (pv 4) U5 (U4 (pv 3))) (C7 (b8 (pv 5) f6))) (P5 sq (pv 4) (U4 (pv 3)) U5))
   (b8 (B7 jr (P5 sq (pv 4) U5 (U4 (pv 3))) (P5 sq (pv 4) (U4 (B7 X8 (pv 3) i9)) U5))
   (b8 (N5 eK rfl B.list Z3 (b8 (pv 4) f6)) (mE rfl)))))))
  (m7 (F8 (i:=7) pS.nd rfl (A5 rfl) (uh rfl (pv 6) (B4 c1 hr rfl (b8 (pv 0) (b8 i9 f6))) (fun _ _=>rfl)))
  (m7 (F8 (i:=8) pS.nd rfl (A5 rfl) (S3
   (b8 (B7 jr (B7 jr (P5 sq (pv 1) U5 (U4 (pv 2))) (C7 (b8 (pv 7) f6))) (P5 sq (pv 1) (U4 (B7 X8 (pv 2) i9)) U5))
   (b8 (B7 jr (P5 sq (pv 1) U5 (U4 (pv 2))) (P5 sq (pv 1) (U4 (B7 X8 (pv 2) i9)) U5))
   (b8 (B7 jr (pv 1) (C7 (b8 (pv 4) f6)))
   (b8 (N5 eK rfl B.list Z3 (b8 (pv 1) f6)) (@jM _ _ _ _ _ _ _ kB (b8 (C7 (b8 (pv 1) f6)) f6))))))))
  (t6 (C6 (uh rfl (B7 ql (pv 8) (S3 (b8 (pv 4) f6))) (B4 c1 hr rfl (b8 (pv 0) (b8 i9 f6))) (fun _ _=>rfl))))))))),?_⟩
 obtain ⟨ra,zs,e,nra,hra,hds⟩:=hrd.untup
 subst e
 have hzl:zs.length=n:=by rw[<- hds.len,d8];exact hR.len
 have s0:aH l b H H:=aH.start hl hst
 refine ⟨_,rfl,_,rfl,ra,_,rfl,.inr (.of hra),l,_,x,b,rfl,hl,hst,(by lia),(by lia),fun at0 x1 hat ok1=>?_⟩
 have s1:=s0.go ok1
 have k1:Kp l H (n8 H l (.lst [.int x1,.bl b])):=Kp.at
 try dsimp only
 generalize n8 H l (.lst [.int x1,.bl b])=H1 at s1 k1
 have hra1:=k1 _ _ nra hra
 obtain ⟨_,x1',hx1,ok1'⟩:=id s1
 refine ⟨_,rfl,_,rfl,ra,_,rfl,.inr (.of hra1),l,_,x1',b,rfl,hx1,ok1',(by lia),(by lia),fun k0 x2 hk0 zl=>⟨_,_,rfl,?_⟩⟩
 have s2:=s1.go zl
 have k2:Kp l H1 (n8 H1 l (.lst [.int x2,.bl b])):=Kp.at
 try dsimp only
 generalize n8 H1 l (.lst [.int x2,.bl b])=H2 at s2 k2
 have hat':at0<rs.length:=by rw[hR.len];lia
 obtain ⟨ra',zs',lb,e1,e2,hzb,hlb⟩:=Eg hrd hat'
 cases e1
 rw[hra] at e2
 cases e2
 have hrow:Mt.EO n 5 (rs.getD at0 []):=hR.at (by rw[<- hR.len];exact hat')
 generalize rs.getD at0 []=row at hlb hrow
 have nlb:lb≠l:=JM hl hlb
 have hra2:=k2 _ _ nra hra1
 have hlb2:=(k1.trans k2) _ _ nlb hlb
 have hds2:=hds.kp (k1.trans k2)
 have hrl:=hrow.len
 refine ⟨_,rfl,_,rfl,ra,_,_,_,rfl,rfl,.of hra2,D7 hzb,?_⟩
 refine ⟨(by show 1<=i0;decide),fun pt hpt=>?_⟩
 have s3:aH l b H (n8 H2 pt (.tup [.int 1])):=s2.new hpt
 have g3:i8 H2 (n8 H2 pt (.tup [.int 1])):=i8.new hpt
 have hpt3:n8 H2 pt (.tup [.int 1]) pt=some (.tup [.int 1]):=f9
 try dsimp only
 generalize n8 H2 pt (.tup [.int 1])=H3 at s3 g3 hpt3
 have npt:pt≠l:=s3.neL hpt3
 refine ⟨_,_,rfl,rfl,⟨by decide,by decide,by decide⟩,_,rfl,_,rfl,lb,_,_,_,rfl,rfl,.of (g3 _ _ hlb2),lK (by lia),(by show 10<=i0;decide),fun po hpo=>?_⟩
 have s4:=s3.new (o:=.lst ([.int 6,.int (-1),.int 5,.int 0,.bl true,.non,.str "1"]++[.ref pt,.int (10 ^ 29),.int (row.getD k0 0)])) hpo
 have npo:po≠l:=(s3.ne hpo).symm
 have g4:i8 H3 (n8 H3 po (.lst ([.int 6,.int (-1),.int 5,.int 0,.bl true,.non,.str "1"]++[.ref pt,.int (10 ^ 29),.int (row.getD k0 0)]))):=i8.new hpo
 have hpo4:n8 H3 po (.lst ([.int 6,.int (-1),.int 5,.int 0,.bl true,.non,.str "1"]++[.ref pt,.int (10 ^ 29),.int (row.getD k0 0)])) po=some (.lst ([.int 6,.int (-1),.int 5,.int 0,.bl true,.non,.str "1"]++[.ref pt,.int (10 ^ 29),.int (row.getD k0 0)])):=f9
 show JJ bI _ _ (n8 H3 po (.lst ([.int 6,.int (-1),.int 5,.int 0,.bl true,.non,.str "1"]++[.ref pt,.int (10 ^ 29),.int (row.getD k0 0)]))) _
 generalize hX:(([.int 6,.int (-1),.int 5,.int 0,.bl true,.non,.str "1"]++[.ref pt,.int (10 ^ 29),.int (row.getD k0 0)]):List V)=X10 at s4 g4 hpo4
 have hX10:X10.length=10/\∀(H':Hp),H' pt=some (.tup [.int 1])->∀y∈X10,Tg l H' y:=by
  rw[<- hX]
  refine ⟨rfl,fun H' h y hy=>?_⟩
  simp only[W7,bW,A0,y7,or_false] at hy
  rcases hy with e|e|e|e|e|e|e|e|e|e
  ·rw[e];exact Tg.int _ _ _
  ·rw[e];exact Tg.int _ _ _
  ·rw[e];exact Tg.int _ _ _
  ·rw[e];exact Tg.int _ _ _
  ·rw[e];exact Tg.bl _ _ _
  ·rw[e];exact Tg.non _ _
  ·rw[e];exact Tg.str _ _ _
  ·rw[e];exact Tg.tup h npt (by decide) fun z hz=>by rw[List.mem_singleton.mp hz];exact (Tg.int _ _ _).sh
  ·rw[e];exact Tg.int _ _ _
  ·rw[e];exact Tg.int _ _ _
 clear hX
 have g24:=g3.trans g4
 have hpt4:=g4 _ _ hpt3
 generalize n8 H3 po (.lst X10)=H4 at s4 g24 g4 hpo4 hpt4
 obtain ⟨_,x4,hx4,ok4⟩:=id s4
 refine ⟨_,rfl,l,10,x4,b,rfl,hx4,ok4,by decide,by decide,fun y x5 hy ok5=>?_⟩
 have s5:=s4.go ok5
 have k5:Kp l H4 (n8 H4 l (.lst [.int x5,.bl b])):=Kp.at
 dsimp only
 generalize n8 H4 l (.lst [.int x5,.bl b])=H5 at s5 k5
 have k25:=(g24.kp l).trans k5
 have hra5:=k25 _ _ nra hra2
 have hlb5:=k25 _ _ nlb hlb2
 have hds5:=hds2.kp k25
 have hpt5:=k5 _ _ npt hpt4
 have hpo5:=k5 _ _ npo hpo4
 have hy10:y<X10.length:=by rw[hX10.1];lia
 refine ⟨po,_,_,X10[y],rfl,rfl,.of hpo5,D7 (f7 hy10),?_⟩
 have hod:Tg l H5 X10[y]:=hX10.2 H5 hpt5 _ (K9 hy10)
 generalize X10[y]=od at hod
 clear hX10 hy10 hpo5 hpo4 hpt5 hpt4 hpt3 k25 g24 k5 g4 g3 s4 s3 s2 s1 k1 k2 hra1 hra2 hlb2 hds2 hx1 hx4
 have moD:∀(H H':Hp) (v:V),i8 H H'->Da l H v->Da l H' v:=fun H H' v g h=>h.kp (g.kp l)
 have moS:∀(H H':Hp) (v:V),i8 H H'->Sh l H v->Sh l H' v:=fun H H' v g h=>h.kp (g.kp l)
 have hxs:∀H',∀z∈row.map V.int,Da l H' z:=fun H' z hz=>by
  obtain ⟨i,_,e⟩:=List.mem_map.mp hz
  rw[<- e];exact (Tg.int _ _ _).sh.da
 have hln:(row.map V.int).length<=4:=by rw[d8,hrow.len];exact n4
 have U:∀H',i8 H5 H'->H' lb=some (.tup (row.map V.int)):=fun H' g=>g _ _ hlb5
 have T1:∀H',i8 H5 H'->cL (Da l) (4+1+4) (gQ ah (gQ ah (va iO (U2 4) W2 (cn (U2 3))) (vB (fi (U2 5) pA))) (va iO (U2 4) (cn (gQ (vM fun i j=>.int (i+j)) (U2 3) (tC (.int 1)))) W2)) [some (.ref l),some (.ref ra),some (.int at0),some (.int k0),some (.ref lb),some od,none,none,none] H':=fun H' g =>
  cL.cat (cL.cat (cL.sl rfl (U _ g) (hxs _) moD hln dU (fR rfl)) (fun H'' g'=>cL.one rfl (hod.sh.da.kp ((g.trans g').kp l)) moD) moD (by decide)) (fun H'' g'=>cL.sl rfl (U _ (g.trans g')) (hxs _) moD hln (jA rfl) dU) moD (by decide)
 have T2:∀H',i8 H5 H'->cL (Da l) (4+1+4) (gQ ah (gQ ah (va iO (U2 4) W2 (cn (U2 3))) (vB (fi (U2 5) pA))) (va iO (U2 4) (cn (U2 3)) W2)) [some (.ref l),some (.ref ra),some (.int at0),some (.int k0),some (.ref lb),some od,none,none,none] H':=fun H' g =>
  cL.cat (cL.cat (cL.sl rfl (U _ g) (hxs _) moD hln dU (fR rfl)) (fun H'' g'=>cL.one rfl (hod.sh.da.kp ((g.trans g').kp l)) moD) moD (by decide)) (fun H'' g'=>cL.sl rfl (U _ (g.trans g')) (hxs _) moD hln (fR rfl) dU) moD (by decide)
 have T3:∀H',i8 H5 H'->cL (Da l) (4+4) (gQ ah (va iO (U2 4) W2 (cn (U2 3))) (va iO (U2 4) (cn (gQ (vM fun i j=>.int (i+j)) (U2 3) (tC (.int 1)))) W2)) [some (.ref l),some (.ref ra),some (.int at0),some (.int k0),some (.ref lb),some od,none,none,none] H':=fun H' g =>
  cL.cat (cL.sl rfl (U _ g) (hxs _) moD hln dU (fR rfl)) (fun H'' g'=>cL.sl rfl (U _ (g.trans g')) (hxs _) moD hln (jA rfl) dU) moD (by decide)
 show gQ ah _ _ _ _ _
 refine T1 H5 (i8.refl _) _ fun p1 H6 xs1 g6 hp1 e1 l1=>?_
 show gQ ah _ _ _ _ _
 refine T2 H6 g6 _ fun p2 H7 xs2 g7 hp2 e2 l2=>?_
 show gQ ah _ _ _ _ _
 refine T3 H7 (g6.trans g7) _ fun p3 H8 xs3 g8 hp3 e3 l3=>?_
 have g58:=(g6.trans g7).trans g8
 have s8:aH l b H H8:=s5.same g58
 refine ⟨_,rfl,lb,_,rfl,.inr (.of (U _ g58)),fun p4 hp4=>⟨(by show 5<=i0;decide),fun prw hprw=>?_⟩⟩
 have s9:aH l b H (n8 H8 p4 (.lst (row.map V.int))):=s8.new hp4
 have np4:p4≠l:=(s8.ne hp4).symm
 have s10:aH l b H (n8 (n8 H8 p4 (.lst (row.map V.int))) prw (.lst [.ref p1,.ref p2,.ref p3,.ref p4,.non])):=s9.new hprw
 have nprw:prw≠l:=(s9.ne hprw).symm
 have g810:i8 H8 (n8 (n8 H8 p4 (.lst (row.map V.int))) prw (.lst [.ref p1,.ref p2,.ref p3,.ref p4,.non])):=(i8.new hp4).trans (i8.new hprw)
 have hp4':n8 (n8 H8 p4 (.lst (row.map V.int))) prw (.lst [.ref p1,.ref p2,.ref p3,.ref p4,.non]) p4=some (.lst (row.map V.int)):=by rw[A1 (fun e=>by rw[<- e,f9] at hprw;cases hprw),f9]
 have hprw':n8 (n8 H8 p4 (.lst (row.map V.int))) prw (.lst [.ref p1,.ref p2,.ref p3,.ref p4,.non]) prw=some (.lst [.ref p1,.ref p2,.ref p3,.ref p4,.non]):=f9
 show iM _ _ _ _ (n8 (n8 H8 p4 (.lst (row.map V.int))) prw (.lst [.ref p1,.ref p2,.ref p3,.ref p4,.non]))
 generalize n8 (n8 H8 p4 (.lst (row.map V.int))) prw (.lst [.ref p1,.ref p2,.ref p3,.ref p4,.non])=H10 at s10 g810 hp4' hprw'
 have tg:∀{p:Addr}{xs:List V}{m:Nat}{Ha:Hp},i8 Ha H10->Ha p=some (.tup xs)->(∀z∈xs,Da l Ha z)->xs.length<=m->m<=1000->Sh l H10 (.ref p):=fun {p xs m Ha} g h e lm hm=>Sh.tup (g _ _ h) (s10.neL (g _ _ h)) (by lia) fun z hz=>moD _ _ _ g (e z hz)
 have alr:∀z∈([.ref p1,.ref p2,.ref p3,.ref p4,.non]:List V),Sh l H10 z:=fun z hz=>by
  simp only[A0,y7,or_false] at hz
  rcases hz with e|e|e|e|e
  ·rw[e];exact tg ((g7.trans g8).trans g810) hp1 e1 l1 (by decide)
  ·rw[e];exact tg (g8.trans g810) hp2 e2 l2 (by decide)
  ·rw[e];exact tg g810 hp3 e3 l3 (by decide)
  ·rw[e];exact (Tg.lst hp4' np4 fun z hz=>hxs _ z hz).sh
  ·rw[e];exact (Tg.non _ _).sh
 generalize hrws:([.ref p1,.ref p2,.ref p3,.ref p4,.non]:List V)=rws at hprw' alr
 have hrl5:rws.length=5:=by rw[<- hrws];rfl
 clear T1 T2 T3
 refine ⟨_,rfl,(by show 8<=i0;decide),fun pk hpk=>?_⟩
 have s11:=s10.new (o:=.lst [.int 0,.int 0,.int 0,.int 0,.int 1,.int 2,.int 3,.int 4]) hpk
 have npk:pk≠l:=(s10.ne hpk).symm
 have k11:Kp l H10 (n8 H10 pk (.lst [.int 0,.int 0,.int 0,.int 0,.int 1,.int 2,.int 3,.int 4])):=Kp.new hpk
 have hk11:n8 H10 pk (.lst [.int 0,.int 0,.int 0,.int 0,.int 1,.int 2,.int 3,.int 4]) pk=some (.lst [.int 0,.int 0,.int 0,.int 0,.int 1,.int 2,.int 3,.int 4]):=f9
 obtain ⟨_,x11,hx11,ok11⟩:=id s11
 refine ⟨_,rfl,l,8,x11,b,rfl,hx11,ok11,by decide,by decide,fun y2 x12 hy2 ok12=>?_⟩
 have s12:=s11.go ok12
 have k12:Kp l (n8 H10 pk (.lst [.int 0,.int 0,.int 0,.int 0,.int 1,.int 2,.int 3,.int 4])) (n8 (n8 H10 pk (.lst [.int 0,.int 0,.int 0,.int 0,.int 1,.int 2,.int 3,.int 4])) l (.lst [.int x12,.bl b])):=Kp.at
 have hk12:=k12 _ _ npk hk11
 have k1012:=k11.trans k12
 dsimp only
 generalize n8 (n8 H10 pk (.lst [.int 0,.int 0,.int 0,.int 0,.int 1,.int 2,.int 3,.int 4])) l (.lst [.int x12,.bl b])=H12 at s12 hk12 k1012
 obtain ⟨k,hk3,hk4⟩:∃k:Nat,([.int 0,.int 0,.int 0,.int 0,.int 1,.int 2,.int 3,.int 4]:List V)[y2]?=some (.int k)/\k<5:=KR y2 (by lia)
 refine ⟨pk,_,_,_,rfl,rfl,.of hk12,D7 hk3,prw,_,_,rws[k]'(by lia),rfl,rfl,.of (k1012 _ _ nprw hprw'),D7 (f7 _),?_⟩
 have hon:Sh l H12 (rws[k]'(by lia)):=(alr _ (K9 _)).kp k1012
 generalize rws[k]'(by lia)=on at hon
 have k512:=((g58.trans g810).kp l).trans k1012
 have hra12:=k512 _ _ nra hra5
 have hlb12:=k512 _ _ nlb hlb5
 have hod12:=hod.kp k512
 have hds12:=hds5.kp k512
 have hlbS:∀H',i8 H12 H'->Sh l H' (.ref lb):=fun H' g=>Sh.tup (g _ _ hlb12) nlb (by lia) fun z hz=>hxs _ z hz
 have hzs:∀H',i8 H12 H'->∀z∈zs,Sh l H' z:=fun H' g z hz=>by
  obtain ⟨i,hi⟩:=List.getElem?_of_mem hz
  obtain ⟨d,hd,dt⟩:=hds12.get hi
  rw[w5] at hd
  obtain ⟨r,hr',e⟩:=Option.map_eq_some_iff.mp hd
  subst e
  have hm:=m8 hr'
  exact ⟨_,dt.kp (g.kp l),kW (by rw[(hR.row r hm).len];lia)⟩
 have hzl4:zs.length<=4:=by lia
 have V1:∀H',i8 H12 H'->cL (Sh l) (4+1+4) (gQ ah (gQ ah (va iO (U2 1) W2 (cn (U2 2))) (vB (fi (U2 7) pA))) (va iO (U2 1) (cn (gQ (vM fun i j=>.int (i+j)) (U2 2) (tC (.int 1)))) W2)) [some (.ref l),some (.ref ra),some (.int at0),some (.int k0),some (.ref lb),some od,some (.ref prw),some on,none] H':=fun H' g =>
  cL.cat (cL.cat (cL.sl rfl (g _ _ hra12) (hzs _ g) moS hzl4 dU (fR rfl)) (fun H'' g'=>cL.one rfl (hon.kp ((g.trans g').kp l)) moS) moS (by decide)) (fun H'' g'=>cL.sl rfl ((g.trans g') _ _ hra12) (hzs _ (g.trans g')) moS hzl4 (jA rfl) dU) moS (by decide)
 have V2:∀H',i8 H12 H'->cL (Sh l) (4+4) (gQ ah (va iO (U2 1) W2 (cn (U2 2))) (va iO (U2 1) (cn (gQ (vM fun i j=>.int (i+j)) (U2 2) (tC (.int 1)))) W2)) [some (.ref l),some (.ref ra),some (.int at0),some (.int k0),some (.ref lb),some od,some (.ref prw),some on,none] H':=fun H' g =>
  cL.cat (cL.sl rfl (g _ _ hra12) (hzs _ g) moS hzl4 dU (fR rfl)) (fun H'' g'=>cL.sl rfl ((g.trans g') _ _ hra12) (hzs _ (g.trans g')) moS hzl4 (jA rfl) dU) moS (by decide)
 have V3:∀H',i8 H12 H'->cL (Sh l) (4+1) (gQ ah (U2 1) (vB (fi (U2 4) pA))) [some (.ref l),some (.ref ra),some (.int at0),some (.int k0),some (.ref lb),some od,some (.ref prw),some on,none] H':=fun H' g =>
  cL.cat (cL.var rfl (g _ _ hra12) (hzs _ g) hzl4) (fun H'' g'=>cL.one rfl (hlbS _ (g.trans g')) moS) moS (by decide)
 show gQ ah _ _ _ _ _
 refine V1 H12 (i8.refl _) _ fun q1 J1 ys1 j1 hq1 f1 m1=>?_
 show gQ ah _ _ _ _ _
 refine V2 J1 j1 _ fun q2 J2 ys2 j2 hq2 f2 m2=>?_
 show gQ ah _ _ _ _ _
 refine V3 J2 (j1.trans j2) _ fun q3 J3 ys3 j3 hq3 f3 m3=>?_
 have j123:=(j1.trans j2).trans j3
 have t3:aH l b H J3:=s12.same j123
 refine ⟨_,rfl,ra,_,rfl,.inr (.of (j123 _ _ hra12)),fun q4 hq4=>?_⟩
 have t4:aH l b H (n8 J3 q4 (.lst zs)):=t3.new hq4
 have nq4:q4≠l:=(t3.ne hq4).symm
 have j4:i8 J3 (n8 J3 q4 (.lst zs)):=i8.new hq4
 have hq4':n8 J3 q4 (.lst zs) q4=some (.lst zs):=f9
 try dsimp only
 generalize n8 J3 q4 (.lst zs)=J4 at t4 j4 hq4'
 refine ⟨_,rfl,(by show 1<=i0;decide),fun pf hpf=>⟨(by show 6<=i0;decide),fun ps hps=>?_⟩⟩
 have hE:n8 J4 pf (.tup [.ref ra]) pf=some (.tup [.ref ra]):=f9
 have j5:i8 J4 (n8 (n8 J4 pf (.tup [.ref ra])) ps (.lst [.ref q1,.ref q2,.ref q3,.ref q4,.non,.ref pf])):=(i8.new hpf).trans (i8.new hps)
 have hE5:n8 (n8 J4 pf (.tup [.ref ra])) ps (.lst [.ref q1,.ref q2,.ref q3,.ref q4,.non,.ref pf]) pf=some (.tup [.ref ra]):=i8.new hps _ _ hE
 have hps':n8 (n8 J4 pf (.tup [.ref ra])) ps (.lst [.ref q1,.ref q2,.ref q3,.ref q4,.non,.ref pf]) ps=some (.lst [.ref q1,.ref q2,.ref q3,.ref q4,.non,.ref pf]):=f9
 dsimp only[bC]
 generalize n8 (n8 J4 pf (.tup [.ref ra])) ps (.lst [.ref q1,.ref q2,.ref q3,.ref q4,.non,.ref pf])=J5 at j5 hE5 hps'
 have t5:=t4.same j5
 have j15:=(j123.trans j4).trans j5
 have tg2:∀{p:Addr}{xs:List V}{m:Nat}{Ha:Hp},i8 Ha J5->Ha p=some (.tup xs)->(∀z∈xs,Sh l Ha z)->xs.length<=m->m<=1000->Tg l J5 (.ref p):=fun {p xs m Ha} g h e lm hm=>Tg.tup (g _ _ h) (t5.neL (g _ _ h)) (by lia) fun z hz=>moS _ _ _ g (e z hz)
 have u1:Tg l J5 (.ref q1):=tg2 (((j2.trans j3).trans j4).trans j5) hq1 f1 m1 (by decide)
 have u2:Tg l J5 (.ref q2):=tg2 ((j3.trans j4).trans j5) hq2 f2 m2 (by decide)
 have u3:Tg l J5 (.ref q3):=tg2 (j4.trans j5) hq3 f3 m3 (by decide)
 have u4:Tg l J5 (.ref q4):=Tg.lst (j5 _ _ hq4') nq4 fun z hz=>(hzs _ j15 z hz).da
 have u6:Tg l J5 (.ref pf):=Tg.tup hE5 (t5.neL hE5) (by show 1<=1000;decide) fun z hz=>by rw[List.mem_singleton.mp hz];exact Sh.tup (j15 _ _ hra12) nra (by lia) fun z' hz'=>(hzs _ j15 z' hz').da
 have u7:Tg l J5 (.ref lb):=Tg.tup (j15 _ _ hlb12) nlb (by lia) fun z hz=>by
  obtain ⟨i,_,e⟩:=List.mem_map.mp hz
  rw[<- e];exact (Tg.int _ _ _).sh
 clear V1 V2 V3
 refine ⟨_,rfl,_,rfl,(by show 1<=i0;decide),fun ph hph=>⟨ps,ph,_,_,rfl,rfl,(by rw[A1 (v5 hps' hph)];exact hps'),f9,(by show 6+1<=i0;decide),fun pz hpz=>?_⟩⟩
 have gG:i8 J5 (n8 (n8 J5 ph (.lst [.ref lb])) pz (.lst ([.ref q1,.ref q2,.ref q3,.ref q4,.non,.ref pf]++[.ref lb]))):=(i8.new hph).trans (i8.new hpz)
 have hz:n8 (n8 J5 ph (.lst [.ref lb])) pz (.lst ([.ref q1,.ref q2,.ref q3,.ref q4,.non,.ref pf]++[.ref lb])) pz=some (.lst ([.ref q1,.ref q2,.ref q3,.ref q4,.non,.ref pf]++[.ref lb])):=f9
 have nz:pz≠l:=((t5.new hph).ne hpz).symm
 have sG:=t5.same gG
 try dsimp only
 generalize n8 (n8 J5 ph (.lst [.ref lb])) pz (.lst ([.ref q1,.ref q2,.ref q3,.ref q4,.non,.ref pf]++[.ref lb]))=HG at gG hz sG
 have all:∀y∈(([.ref q1,.ref q2,.ref q3,.ref q4,.non,.ref pf]++[.ref lb]):List V),Tg l HG y:=fun y hy=>by
  simp only[W7,bW,A0,y7,or_false] at hy
  have k9:=gG.kp l
  rcases hy with e|e|e|e|e|e|e
  ·rw[e];exact u1.kp k9
  ·rw[e];exact u2.kp k9
  ·rw[e];exact u3.kp k9
  ·rw[e];exact u4.kp k9
  ·rw[e];exact Tg.non _ _
  ·rw[e];exact u6.kp k9
  ·rw[e];exact u7.kp k9
 generalize hL10:(([.ref q1,.ref q2,.ref q3,.ref q4,.non,.ref pf]++[.ref lb]):List V)=L10 at hz all
 have hlen10:L10.length=7:=by rw[<- hL10];rfl
 refine ⟨(by show 11<=i0;decide),fun pk2 hpk2=>?_⟩
 have sH:=sG.new (o:=.lst [.int 0,.int 0,.int 0,.int 0,.int 0,.int 1,.int 2,.int 3,.int 4,.int 5,.int 6]) hpk2
 have npk2:pk2≠l:=(sG.ne hpk2).symm
 have kH:Kp l HG (n8 HG pk2 (.lst [.int 0,.int 0,.int 0,.int 0,.int 0,.int 1,.int 2,.int 3,.int 4,.int 5,.int 6])):=Kp.new hpk2
 have hkk:n8 HG pk2 (.lst [.int 0,.int 0,.int 0,.int 0,.int 0,.int 1,.int 2,.int 3,.int 4,.int 5,.int 6]) pk2=some (.lst [.int 0,.int 0,.int 0,.int 0,.int 0,.int 1,.int 2,.int 3,.int 4,.int 5,.int 6]):=f9
 obtain ⟨_,xH,hxH,okH⟩:=id sH
 refine ⟨_,rfl,l,11,xH,b,rfl,hxH,okH,by decide,by decide,fun y3 xI hy3 okI=>?_⟩
 have sI:=sH.go okI
 have kI:Kp l (n8 HG pk2 (.lst [.int 0,.int 0,.int 0,.int 0,.int 0,.int 1,.int 2,.int 3,.int 4,.int 5,.int 6])) (n8 (n8 HG pk2 (.lst [.int 0,.int 0,.int 0,.int 0,.int 0,.int 1,.int 2,.int 3,.int 4,.int 5,.int 6])) l (.lst [.int xI,.bl b])):=Kp.at
 have hkk2:=kI _ _ npk2 hkk
 have hz2:=(kH.trans kI) _ _ nz hz
 obtain ⟨k',hk5,hk6⟩:∃k:Nat,([.int 0,.int 0,.int 0,.int 0,.int 0,.int 1,.int 2,.int 3,.int 4,.int 5,.int 6]:List V)[y3]?=some (.int k)/\k<7:=IA y3 (by lia)
 refine ⟨pk2,_,_,_,rfl,rfl,.of hkk2,D7 hk5,pz,_,_,L10[k']'(by lia),rfl,rfl,.of hz2,D7 (f7 _),q _ _ sI ((all _ (K9 _)).kp (kH.trans kI))⟩
end
end G
namespace L2
open PySem PySem.Spec PyProof.Rows
theorem GP:∀a b:List Int,K1 (a.map K8) (b.map K8)=decide (a=b)
 | [],[]=>by unfold K1;rfl
 | [],y::b=>by
  show K1 [] (.int y::b.map K8)=_
  unfold K1;rfl
 | x::a,[]=>by
  show K1 (.int x::a.map K8) []=_
  unfold K1;rfl
 | x::a,y::b=>by
  show K1 (.int x::a.map K8) (.int y::b.map K8)=_
  unfold K1
  rw[GP a b]
  unfold aj
  by_cases h:x=y
  ·subst h;simp
  ·simp[h]
open PySem.W (KasT)
section
variable {n:Nat} (hn:0<n)
include hn
end
end L2
namespace L2
open PySem PySem.Spec PyProof.Rows
section
variable {prog:j7}{w:u9}{A:A8}{E:b9->d9->Prop}{s:d9}
noncomputable def Mc (h:Heap) (it d:Addr) (i n ep:Nat) (a:Addr):Prop:=∃(f:Bool) (ok ov:b9),BP h it d i n ep ok ov a f
variable {it d:Addr}{od:Obj}{i ep:Nat}{es:Array M4}
theorem wj {a:Addr}{oa:Obj}{en:M4}{Q:Option b9->d9->Prop} (hit:Mc s.heap it d i es.size ep a) (ha:s.heap.get? a=some oa) (hai:a≠it)
  (hod:s.heap.get? d=some od) (hdd:od.data=.dict es ep) (hx:es[i]?=some en)
  (hQ:∀h',Mc h' it d (i+1) es.size ep a->h'.get? s.heap.objs.size=some { cls:=.type "tuple",data:=.seq #[en.key,en.val] }->h'.objs.size=s.heap.objs.size+1 ->
   (∀b o,b≠it->s.heap.get? b=some o->h'.get? b=some o)->Q (some (.ref s.heap.objs.size)) { s with heap:=h' }):j6 (r6 prog w) A (Y1 (.ref it)) Q E s:=by
 obtain ⟨hp,g,dr,tk,os⟩:=s
 obtain ⟨f,ok,ov,hit⟩:=hit
 have tI:dJ ⟨hp,g,dr,tk,os⟩ (.ref it) "dict_itemiterator":=⟨_,hit,rfl⟩
 unfold Y1
 refine b7 (Q2 (C0 (name:=P9 "__next__") tI G4 (D5 G4 tI aq ?_ (aa _))))
 refine b7 (d6 (b7 (b7 ?_)))
 first|refine b7 (G0 tI (d6 (b7 (aA hit rfl ?_))))|refine b7 (K7 tI (d6 (b7 (aA hit rfl ?_))))
 have own:J8 "dict_itemiterator"=true:=by decide
 simp only[own,if_true]
 show j6 _ _ (if (n5 d == B5)=true then _ else _) _ _ _
 rw[if_neg (show ¬ ((n5 d == B5)=true) from t7)]
 refine b7 (d6 (b7 (W1 hod hdd ?_)))
 rw[if_neg (by simp)]
 refine b7 (d6 (b7 (Z1 hod hdd ?_)))
 rw[if_neg (by simp)]
 refine d6 ?_
 simp only[show ¬ ((i:Int)<0) from by lia,if_false,M3,hx]
 refine b7 ?_
 first|refine b7 (G0 tI (d6 (b7 (S9 tI ?_))))|refine b7 (K7 tI (d6 (b7 (S9 tI ?_))))
 show j6 _ _ (iG (.ref it) 3 (U9 ((i:Int)+1)) >>= _) _ _ ⟨hp,g,dr,tk,os⟩
 refine b7 (D4 hit (by simp) fun h1 he1 b1=>?_)
 replace b1:G2 it hp h1:=b1
 replace he1:BP h1 it d (i+1) es.size ep ok ov a f:=by
  have e:((i+1:Nat):Int)=(i:Int)+1:=by lia
  unfold BP;rw[e];simpa [U9] using he1
 have tI1:dJ ⟨h1,g,dr,tk,os⟩ (.ref it) "dict_itemiterator":=⟨_,he1,rfl⟩
 refine b7 (L8 (b7 (S9 tI1 (b7 (S9 tI1 ?_)))))
 show j6 _ _ (V6 (.ref it) 6 en.key en.val) _ _ ⟨h1,g,dr,tk,os⟩
 unfold V6
 refine b7 (iB ?_)
 have z1:h1.objs.size=hp.objs.size:=b1.1
 have hil:it<hp.objs.size:=i5 hit
 obtain ⟨h2,eh2⟩:∃h2,h2=h1.push { cls:=.type "tuple",data:=.seq #[en.key,en.val] }:=⟨_,rfl⟩
 have he2:BP h2 it d (i+1) es.size ep ok ov a f:=by rw[eh2];exact d7 _ he1
 have t2:h2.get? hp.objs.size=some { cls:=.type "tuple",data:=.seq #[en.key,en.val] }:=by rw[eh2,<- z1];exact j9 _ rfl
 have z2:h2.objs.size=hp.objs.size+1:=by rw[eh2,D3,z1]
 have k2:∀b o,b≠it->hp.get? b=some o->h2.get? b=some o:=fun b o hb e=>by rw[eh2];exact d7 _ (b1.extBut b o hb e)
 show j6 _ _ (T8 (.ref it) >>= _) _ _ ⟨h1.push { cls:=.type "tuple",data:=.seq #[en.key,en.val] },g,dr,tk,os⟩
 rw[z1,<- eh2]
 have a2:h2.get? a=some oa:=k2 a oa hai ha
 refine b7 ?_
 unfold T8
 refine b7 (C3 he2 rfl (x:=U9 a) rfl ?_)
 show j6 _ _ (loadIfAlive ((a:Int).toNat) >>= _) _ _ _
 rw[M3]
 refine b7 (W.kdx_alive a2 ?_)
 simp only[Option.isNone_some,F9,if_false]
 refine b7 (C3 he2 rfl (x:=.bool f) rfl ?_)
 have fin:∀h3:Heap,BP h3 it d (i+1) es.size ep ok ov a true->G2 it h2 h3->Q (some (.ref hp.objs.size)) ⟨h3,g,dr,tk,os⟩:=fun h3 he3 b3 =>
  hQ h3 ⟨true,ok,ov,he3⟩ (b3.extBut _ _ (B9 hil) t2) (by show h3.objs.size=hp.objs.size+1;rw[b3.1,z2]) fun b o hb e=>b3.extBut b o hb (k2 b o hb e)
 cases f with
 | true =>
  rw[if_neg (show ¬ ((R1 true != R1 true)=true) from t7)]
  refine d6 ?_
  simp only[F9,if_false]
  exact d6 (d6 ⟨_,rfl,d6 (fin h2 he2 (Heap.SameBut.refl _ _))⟩)
 | false =>
  rw[if_pos (show (R1 false != R1 true)=true from rfl)]
  refine b7 (D4 he2 (by simp) fun h3 he3 b3=>?_)
  refine d6 ?_
  simp only[F9,if_false]
  exact d6 (d6 ⟨_,rfl,d6 (fin h3 he3 b3)⟩)
theorem yz {a:Addr}{Q:Option b9->d9->Prop} (hh:A.handled=none) (hit:Mc s.heap it d i es.size ep a)
  (hod:s.heap.get? d=some od) (hdd:od.data=.dict es ep) (hge:es.size<=i) (hQ:∀h',eM it s.heap h'->Q none { s with heap:=h' }):j6 (r6 prog w) A (Y1 (.ref it)) Q E s:=by
 obtain ⟨f,ok,ov,hit⟩:=hit
 have tI:s.TypeIs (.ref it) "dict_itemiterator":=⟨_,hit,rfl⟩
 unfold Y1
 refine b7 (Q2 (C0 (name:=P9 "__next__") tI G4 (D5 G4 tI aq ?_ (aa _))))
 refine b7 (d6 (b7 (b7 ?_)))
 first|refine b7 (G0 tI (d6 (b7 (aA hit rfl ?_))))|refine b7 (K7 tI (d6 (b7 (aA hit rfl ?_))))
 have own:J8 "dict_itemiterator"=true:=by decide
 simp only[own,if_true]
 show j6 _ _ (if (n5 d == B5)=true then _ else _) _ _ s
 rw[if_neg (show ¬ ((n5 d == B5)=true) from t7)]
 refine b7 (d6 (b7 (W1 hod hdd ?_)))
 rw[if_neg (by simp)]
 refine b7 (d6 (b7 (Z1 hod hdd ?_)))
 rw[if_neg (by simp)]
 refine d6 ?_
 simp only[show ¬ ((i:Int)<0) from by lia,if_false,M3,iW hge]
 refine b7 ?_
 first|refine b7 (G0 tI (d6 ?_))|refine b7 (K7 tI (d6 ?_))
 show j6 _ _ (iG (.ref it) 2 .none >>= _) _ _ s
 refine b7 (X9 hit rfl (by simp) ?_)
 show j6 _ _ (vh (.type "StopIteration") [] >>= _) _ _ _
 refine b7 ?_
 simp only[vh,Af]
 refine b7 (B6 ?_ (by size_fits))
 refine b7 (m:=aB _ _) (nV (a:=B5) (by first|rfl | (simp only[aB];rfl)) ?_)
 refine B6 ?_ (by size_fits)
 simp only[GZ]
 refine b7 (qW ?_)
 rw[show A.in1.handled=none from hh]
 refine b7 (d6 (wX ?_))
 refine b7 (fC (T:="StopIteration") (b:=true) ⟨_,j9 _ rfl,rfl⟩ iH ?_)
 exact d6 (hQ _ (((Q5 ..).extBut.push _).push _))
noncomputable def JR (h:Heap) (it d S:Addr) (i n ep:Nat):Prop:=(i=0/\∃ok ov,bU h it d 0 n ep ok ov) ∨ ∃a oa,Mc h it d i n ep a/\h.get? a=some oa/\a≠it/\a≠S
theorem JR.keep {h h':Heap}{S:Addr}{n:Nat} (x:JR h it d S i n ep) (k:∀b o,b≠S->h.get? b=some o->h'.get? b=some o) (hI:it≠S):JR h' it d S i n ep:=by
 rcases x with ⟨e,ok,ov,q⟩|⟨a,oa,⟨f,ok,ov,q⟩,h1,h2,h3⟩
 ·exact .inl ⟨e,ok,ov,k _ _ hI q⟩
 ·exact .inr ⟨a,oa,⟨f,ok,ov,k _ _ hI q⟩,k _ _ h3 h1,h2,h3⟩
noncomputable def JN (h:Heap) (es:Array M4) (as:List Addr):Prop:=∀(j:Nat) (a:Addr),as[j]?=some a->∃en,es[j]?=some en/\h.get? a=some { cls:=.type "tuple",data:=.seq #[en.key,en.val] }
theorem yy {R:Fd->d9->Prop}{S I:Addr}(hh:A.handled=none) (hSI:S≠I) (hSd:d≠S) (hId:d≠I) (hdd:od.data=.dict es ep) (hn:es.size<=i0) (res:b9) (h0:Heap)
  (hR:∀h' tk acc c as,(∀b o,b≠S->b≠I->h0.get? b=some o->h'.get? b=some o)->h'.get? S=some { cls:=.type "list",dict:=none,data:=.seq acc c,slots:=#[] }->as.length=es.size->as.Nodup->(∀a∈as,h0.objs.size<=a)->JN h' es as->acc.toList=as.map n5->R (.ok (.ret res)) { s with heap:=h',toks:=tk }):
  ∀(k i:Nat) (h:Heap) (tk:Nat) (acc:Array b9) (c:Nat) (as:List Addr),es.size - i=k->i<=es.size->S<h.objs.size->h0.objs.size<=h.objs.size->JR h I d S i es.size ep->h.get? d=some od->h.get? S=some { cls:=.type "list",dict:=none,data:=.seq acc c,slots:=#[] } ->
  as.length=i->as.Nodup->(∀a∈as,h0.objs.size<=a/\a≠S/\a≠I)->JN h es as->acc.toList=as.map n5->(∀b o,b≠S->b≠I->h0.get? b=some o->h.get? b=some o) ->
  dc (r6 prog w) A (.builtin "list.extend.loop" ⟨[.ref S,.ref I,res],[]⟩) R { s with heap:=h,toks:=tk }:=by
 intro k
 induction k with
 | zero =>
  intro i h tk acc c as hk hi hS hz st hd hSo hl hnd hab hp hac kp
  have e:i=es.size:=by lia
  subst e
  refine lP Gx ?_
  rw[dR ak _]
  show j6 _ A.in1 (Y1 (.ref I) >>= _) _ _ _
  have fin:∀h',eM I h h'->R (.ok (.ret res)) { s with heap:=h',toks:=tk }:=fun h' x=>by
   refine hR h' tk acc c as (fun b o h1 h2 q=>x b o h2 (kp b o h1 h2 q)) (x _ _ hSI hSo) hl hnd (fun a ha=>(hab a ha).1) (fun j a ha=>?_) hac
   obtain ⟨en,e1,e2⟩:=hp j a ha
   exact ⟨en,e1,x _ _ (hab a (m8 ha)).2.2 e2⟩
  rcases st with ⟨e,ok,ov,q⟩|⟨a,oa,q,_,_,_⟩
  ·exact b7 (qJ (s:={ s with heap:=h,toks:=tk }) (A:=A.in1) hh q hd hdd (Ap e) fun h' x=>d6 (fin h' x))
  ·exact b7 (yz (s:={ s with heap:=h,toks:=tk }) (A:=A.in1) hh q hd hdd (i6 _) fun h' x=>d6 (fin h' x))
 | succ k ih =>
  intro i h tk acc c as hk hi hS hz st hd hSo hl hnd hab hp hac kp
  have hlt:i<es.size:=by lia
  have hx:es[i]?=some es[i]:=O4 hlt
  refine lP Gx ?_
  rw[dR ak _]
  show j6 _ A.in1 (Y1 (.ref I) >>= _) _ _ _
  have iI:I<h.objs.size:=by
   rcases st with ⟨_,_,_,q⟩|⟨_,_,⟨_,_,_,q⟩,_⟩
   ·exact i5 q
   ·exact i5 q
  have go:∀h' h'':Heap,JR h' I d S (i+1) es.size ep->h'.get? h.objs.size=some { cls:=.type "tuple",data:=.seq #[es[i].key,es[i].val] }->h'.objs.size=h.objs.size+1->(∀b o,b≠I->h.get? b=some o->h'.get? b=some o) ->
    (∀b o,b≠S->h'.get? b=some o->h''.get? b=some o)->h''.objs.size=h'.objs.size->(∃c',h''.get? S=some { cls:=.type "list",dict:=none,data:=.seq (acc.push (.ref h.objs.size)) c',slots:=#[] }) ->
    dc (r6 prog w) A (.builtin "list.extend.loop" ⟨[.ref S,.ref I,res],[]⟩) R { s with heap:=h'',toks:=tk }:=fun h' h'' st' nw zz x y zy ⟨c',hS'⟩=>by
   have nS:h.objs.size≠S:=B9 hS
   have nI:h.objs.size≠I:=B9 iI
   refine ih (i+1) h'' tk (acc.push (.ref h.objs.size)) c' (as++[h.objs.size]) (by lia) hlt (by rw[zy,zz];exact M0 hS) (by rw[zy,zz];exact Nat.le_succ_of_le hz) (st'.keep y hSI.symm) (y _ _ hSd (x _ _ hId hd)) hS' (by rw[w9,hl];rfl) ?_ (fun a ha=>?_) (fun j a ha=>?_) ?_ (fun b o h1 h2 q=>y _ _ h1 (x _ _ h2 (kp b o h1 h2 q)))
   ·rw[List.nodup_append]
    refine ⟨hnd,by simp,fun a ha b hb=>?_⟩
    rw[List.mem_singleton.mp hb]
    obtain ⟨j,hj⟩:=List.mem_iff_getElem?.mp ha
    obtain ⟨en,_,e2⟩:=hp j a hj
    exact n0 (i5 e2)
   ·rcases List.mem_append.mp ha with q|q
    ·exact hab a q
    ·rw[List.mem_singleton.mp q];exact ⟨hz,nS,nI⟩
   ·rw[BG] at ha
    split at ha
    ·obtain ⟨en,e1,e2⟩:=hp j a ha
     have hm:=hab a (m8 ha)
     exact ⟨en,e1,y _ _ hm.2.1 (x _ _ hm.2.2 e2)⟩
    ·rename_i hj
     have hj0:j - as.length=0:=by
      cases hjj:j - as.length with
      | zero=>rfl
      | succ m=>rw[hjj] at ha;cases ha
     rw[hj0] at ha
     cases ha
     have ej:j=i:=by lia
     subst ej
     exact ⟨es[j],hx,y _ _ nS nw⟩
   ·rw[cQ,hac,B0];rfl
  have step:∀h':Heap,JR h' I d S (i+1) es.size ep->h'.get? h.objs.size=some { cls:=.type "tuple",data:=.seq #[es[i].key,es[i].val] }->h'.objs.size=h.objs.size+1->(∀b o,b≠I->h.get? b=some o->h'.get? b=some o) ->
    j6 (r6 prog w) A.in1 (ve S (·.push (.ref h.objs.size))) (fun _ s'=>dc (r6 prog w) A (.builtin "list.extend.loop" ⟨[.ref S,.ref I,res],[]⟩) R s') (fun e s'=>R (.error e) s') { s with heap:=h',toks:=tk }:=fun h' st' nw zz x=>by
   have hS':=x _ _ hSI hSo
   have hal:acc.size=i:=by rw[<- D9,hac,d8,hl]
   refine xu hS' rfl (go h' _ st' nw zz x (fun b o hb q=>(E8 _ _ (F6 hb)).trans q) (iT ..) ⟨_,L7 _ hS' rfl⟩) (by rw[hal];lia) (by show (acc.push _).size<=i0+1;rw[Array.size_push,hal];lia)
  rcases st with ⟨e,ok,ov,q⟩|⟨a,oa,q,ha,hai,haS⟩
  ·subst e
   refine b7 (nN (s:={ s with heap:=h,toks:=tk }) (A:=A.in1) q hd hdd hx fun h' z1 nw zz x=>?_)
   show j6 _ A.in1 (ve S (·.push (.ref h.objs.size)) >>= _) _ _ _
   exact b7 (F5 (step h' (.inr ⟨h.objs.size,_,⟨false,_,_,z1⟩,nw,B9 iI,B9 hS⟩) nw zz x) (fun _ s' r=>d6 ⟨jE ak _,r⟩) fun _ _ r=>r)
  ·refine b7 (wj (s:={ s with heap:=h,toks:=tk }) (A:=A.in1) q ha hai hd hdd hx fun h' z1 nw zz x=>?_)
   show j6 _ A.in1 (ve S (·.push (.ref h.objs.size)) >>= _) _ _ _
   exact b7 (F5 (step h' (.inr ⟨a,oa,z1,x _ _ hai ha,hai,haS⟩) nw zz x) (fun _ s' r=>d6 ⟨jE ak _,r⟩) fun _ _ r=>r)
end
section
variable {prog:j7}{w:u9}{A:A8}{E:b9->d9->Prop}{s:d9}{v d:Addr}{od:Obj}{es:Array M4}{ep:Nat}
theorem uB {R:Fd->d9->Prop} (hh:A.handled=none) (hv:s.heap.IsItemsView v d) (hod:s.heap.get? d=some od) (hdd:od.data=.dict es ep) (hn:es.size<=i0) {S:Addr} (hSv:S≠v) (hSd:d≠S) (res:b9) (hS:s.heap.get? S=some { cls:=.type "list",data:=.seq #[] 0 })
  (hR:∀h' tk acc c as,(∀b o,b≠S->s.heap.get? b=some o->h'.get? b=some o)->h'.get? S=some { cls:=.type "list",dict:=none,data:=.seq acc c,slots:=#[] }->as.length=es.size->as.Nodup->(∀a∈as,s.heap.objs.size<=a)->JN h' es as->acc.toList=as.map n5->R (.ok (.ret res)) { s with heap:=h',toks:=tk }):
  j6 (r6 prog w) A.in1 (dG (.ref S) (.ref v) res) (fun fin s'=>match fin with | .done f=>R (.ok f) s' | .again c'=>c'.quiet=true/\dc (r6 prog w) A c' R s') (fun e s'=>R (.error e) s') s:=by
 have lS:S<s.heap.objs.size:=i5 hS
 have ld:d<s.heap.objs.size:=i5 hod
 have run:∀(h:Heap) (c1 tk:Nat),(∀b o,b≠S->(s.heap.push { cls:=.type "dict_itemiterator",data:=.fields #[.none,.bool false,.ref d,.int 0 0,.int es.size 0,.int ep 0,.none,.none] }).get? b=some o->h.get? b=some o)->s.heap.objs.size<=h.objs.size ->
   h.get? S=some { cls:=.type "list",data:=.seq #[] c1 }->dc (r6 prog w) A (.builtin "list.extend.loop" ⟨[.ref S,.ref s.heap.objs.size,res],[]⟩) R { s with heap:=h,toks:=tk }:=by
  intro h c1 tk hk hz hS1
  have hI:=hk s.heap.objs.size _ (B9 lS) (j9 _ rfl)
  exact yy (s:=s) hh (n0 lS) hSd (n0 ld) hdd hn res s.heap (fun h' tk' acc c as k1 k2 k3 k4 k5 k6 k7=>hR h' tk' acc c as (fun b o hb e=>k1 b o hb (n0 (i5 e)) e) k2 k3 k4 k5 k6 k7)
   es.size 0 h tk #[] c1 [] (jI _) (v8 _) (i5 hS1) hz (.inl ⟨rfl,.none,.none,hI⟩) (hk d _ hSd (d7 _ hod)) hS1 rfl uU (fun _ ha=>nomatch ha) (fun j a hj=>by simp at hj) rfl (fun b o hb _ e=>hk b o hb (d7 _ e))
 unfold dG
 refine b7 (sS (T:="dict_items") hv.typeIs ?_)
 have c1:ou (.ref S) (.ref v)=false:=by simp[ou,hSv]
 have c2:(iU "dict_items" == iU "list")=false:=by decide
 have c3:(iU "dict_items" == iU "tuple")=false:=by decide
 simp only[c1,c2,c3,Bool.or_false,F9,if_false]
 refine b7 (nM hv hod hdd ?_)
 have hS1:=d7 { cls:=.type "dict_itemiterator",data:=.fields #[.none,.bool false,.ref d,.int 0 0,.int es.size 0,.int ep 0,.none,.none] } hS
 refine b7 (L8 (W.kdx_hint (let ⟨o,ho,hc,_⟩:=hv;⟨o,d7 _ ho,hc⟩) ?_))
 refine wpAny_ite_split (fun _=>?_) (fun _=>d6 ⟨jE ak _,run _ 0 _ (fun b o _ e=>e) (by show s.heap.objs.size<=(s.heap.push _).objs.size;rw[D3];exact Y9 _) hS1⟩)
 refine b7 (Q9 (b7 ?_))
 show j6 _ _ (ve S (·.push .none) >>= fun _=>ve S (·.pop)) _ _ _
 refine b7 (xu hS1 rfl ?_)
 have hS2:=L7 (X3 (·.push B5)) hS1 rfl
 refine xu (hz:=by seq_fits) hS2 rfl ?_
 have hS3:=L7 (X3 (·.pop)) hS2 rfl
 refine d6 ⟨jE ak _,run _ _ _ (fun b o hb e=>(E8 _ _ (F6 hb)).trans ((E8 _ _ (F6 hb)).trans e)) ?_ hS3⟩
 show s.heap.objs.size<=(((s.heap.push _).update S _).update S _).objs.size
 rw[iT,iT,D3];exact Y9 _
theorem rP {Q:List b9->d9->Prop} (hh:A.handled=none) (hv:s.heap.IsItemsView v d) (hod:s.heap.get? d=some od) (hdd:od.data=.dict es ep) (hn:es.size<=i0)
  (h:∀(h':Heap) (tk:Nat) (as:List Addr),s.heap.objs.size<h'.objs.size->(∀b o,s.heap.get? b=some o->h'.get? b=some o)->as.length=es.size->as.Nodup->(∀a∈as,s.heap.objs.size<=a)->JN h' es as->Q (as.map n5) { s with heap:=h',toks:=tk }):
  j6 (r6 prog w) A (collect (.ref v)) Q E s:=by
 have lv:v<s.heap.objs.size:=let ⟨_,ho,_⟩:=hv;i5 ho
 have ld:d<s.heap.objs.size:=i5 hod
 unfold collect
 refine b7 (wpAny_runValue (lP F.entry_proto_collect ?_))
 rw[dR F.plain_proto_collect _]
 show j6 _ A.in1 (newList [] >>= fun l=>again (.builtin "list.__iadd__" ⟨[l,.ref v],[]⟩)) _ _ s
 refine b7 (B6 (d6 ⟨jE JD _,lP F.entry_list_iadd ?_⟩))
 rw[dR JD _]
 have hS1:(s.heap.push { cls:=.type "list",data:=.seq ([]:List b9).toArray }).get? s.heap.objs.size=some { cls:=.type "list",data:=.seq #[] }:=j9 _ rfl
 have hz1:(s.heap.push { cls:=.type "list",data:=.seq ([]:List b9).toArray }).objs.size=s.heap.objs.size+1:=D3 ..
 show j6 _ A.in1 (dG (.ref s.heap.objs.size) (.ref v) (.ref s.heap.objs.size)) _ _ _
 have key:=uB (prog:=prog) (w:=w) (A:=A) (s:={ s with heap:=s.heap.push { cls:=.type "list",data:=.seq ([]:List b9).toArray } }) (es:=es) (ep:=ep)
  (R:=fun (q:Fd) (s':d9)=>∃(h':Heap) (tk:Nat) (acc':Array b9) (c':Nat) (as:List Addr),q=.ok (.ret (.ref s.heap.objs.size))/\s'={ s with heap:=h',toks:=tk } /\
   (∀b o,s.heap.get? b=some o->h'.get? b=some o)/\h'.get? s.heap.objs.size=some { cls:=.type "list",dict:=none,data:=.seq acc' c',slots:=#[] }/\as.length=es.size/\as.Nodup/\(∀a∈as,s.heap.objs.size<=a)/\JN h' es as/\acc'.toList=as.map n5)
  hh (let ⟨o,ho,x⟩:=hv;⟨o,d7 _ ho,x⟩) (d7 _ hod) hdd hn (B9 lv) (n0 ld) (.ref s.heap.objs.size) hS1
  (fun h' tk acc' c' as hk hS' hl hnd hab hG hacc=>⟨h',tk,acc',c',as,rfl,rfl,fun b o e=>hk b o (n0 (i5 e)) (d7 _ e),hS',hl,hnd,(fun a ha=>j0 (by rw[hz1];exact Y9 _) (hab a ha)),hG,hacc⟩)
 have out:∀(h':Heap) (tk:Nat) (acc':Array b9) (c':Nat) (as:List Addr),(∀b o,s.heap.get? b=some o->h'.get? b=some o)->h'.get? s.heap.objs.size=some { cls:=.type "list",dict:=none,data:=.seq acc' c',slots:=#[] }->as.length=es.size->as.Nodup->(∀a∈as,s.heap.objs.size<=a)->JN h' es as->acc'.toList=as.map n5 ->
   j6 (r6 prog w) A (do
    let o <- load s.heap.objs.size
    match o.data with
    | .seq xs _=>pure xs.toList
    | _=>unsupported "internal:collect") Q E { s with heap:=h',toks:=tk }:=fun h' tk acc' c' as k1 k2 k3 k4 k5 k6 k7=>by
  refine b7 (wpAny_load k2 (d6 ?_))
  show Q acc'.toList _
  rw[k7]
  exact h h' tk as (i5 k2) k1 k3 k4 k5 k6
 refine F5 key (fun fin s' x=>?_) fun e s' x=>?_
 ·cases fin with
  | done f =>
   obtain ⟨h',tk,acc',c',as,e,rfl,k1,k2,k3,k4,k5,k6,k7⟩:=x
   cases e
   exact out h' tk acc' c' as k1 k2 k3 k4 k5 k6 k7
  | again c1 =>
   refine ⟨x.1,gJ x.2 fun q s2 y=>?_⟩
   obtain ⟨h',tk,acc',c',as,rfl,rfl,k1,k2,k3,k4,k5,k6,k7⟩:=y
   exact out h' tk acc' c' as k1 k2 k3 k4 k5 k6 k7
 ·obtain ⟨_,_,_,_,_,e',_⟩:=x
  cases e'
end
section
variable {prog:j7}{w:u9}{A:A8}{E:b9->d9->Prop}{s:d9}
noncomputable def Br (h:Heap) (v:b9):Prop:=∃(a:Addr) (us:List b9) (ns:List Int),v=.ref a/\xj h a us.toArray/\az us ns
end
section
variable {prog:j7}{w:u9}{A:A8}{E:b9->d9->Prop}{s:d9}
end
theorem hV {α β:Type}{f:α->β}:∀{l:List β}{m:List α},l.Perm (m.map f)->∃m':List α,m'.Perm m/\l=m'.map f
 | [],m,h=>by
  have e:m.map f=[]:=h.nil_eq.symm
  rw[List.map_eq_nil_iff] at e
  exact ⟨[],by rw[e],rfl⟩
 | b::l,m,h=>by
  have hb:b∈m.map f:=h.mem_iff.mp i4
  obtain ⟨x,hx,e⟩:=List.mem_map.mp hb
  obtain ⟨p,q,em⟩:=List.append_of_mem hx
  subst em e
  have h2:(f x::l).Perm (f x::(p++q).map f):=h.trans (by
   rw[B0,A9,B0]
   exact List.perm_middle)
  obtain ⟨m',h3,e3⟩:=hV (m:=p++q) h2.cons_inv
  exact ⟨x::m',(h3.cons x).trans List.perm_middle.symm,by rw[e3];rfl⟩
noncomputable def rm (H:Hp):List (List S6 × V)->List V->Prop
 | [],[]=>True
 | (k,x)::kvs,y::ys=>(∃p ka,y=.ref p/\H p=some (.tup [.ref ka,x])/\H ka=some (.tup (k.map kV)))/\rm H kvs ys
 | _,_=>False
theorem rm.same {H H':Hp} (g:i8 H H'):∀{kvs:List (List S6 × V)}{ys:List V},rm H kvs ys->rm H' kvs ys
 | [],[],_=>trivial
 | (k,x)::kvs,y::ys,h=>⟨let ⟨p,ka,e,a,b⟩:=h.1;⟨p,ka,e,g _ _ a,g _ _ b⟩,rm.same g h.2⟩
 | [],_::_,h=>h.elim
 | _::_,[],h=>h.elim
theorem rm.len {H:Hp}:∀{kvs:List (List S6 × V)}{ys:List V},rm H kvs ys->kvs.length=ys.length
 | [],[],_=>rfl
 | (k,x)::kvs,y::ys,h=>by rw[m9,m9,rm.len h.2]
 | [],_::_,h=>h.elim
 | _::_,[],h=>h.elim
theorem rm.get {H:Hp}:∀{kvs:List (List S6 × V)}{ys:List V}{i:Nat}{y:V},rm H kvs ys->ys[i]?=some y->∃k x p ka,kvs[i]?=some (k,x)/\y=.ref p/\H p=some (.tup [.ref ka,x])/\H ka=some (.tup (k.map kV))
 | (k,x)::kvs,y::ys,0,z,h,e=>by
  obtain ⟨p,ka,e1,a,b⟩:=h.1
  cases e
  exact ⟨k,x,p,ka,rfl,e1,a,b⟩
 | (k,x)::kvs,y::ys,i+1,z,h,e=>rm.get (i:=i) h.2 e
 | [],[],i,z,h,e=>by simp at e
 | [],_::_,i,z,h,e=>h.elim
 | _::_,[],i,z,h,e=>h.elim
theorem rm.mk {H:Hp}:∀{L:List (Addr × (List S6 × V))},(∀t∈L,∃ka,H t.1=some (.tup [.ref ka,t.2.2])/\H ka=some (.tup (t.2.1.map kV)))->rm H (L.map (·.2)) (L.map fun t=>V.ref t.1)
 | [],_=>trivial
 | (a,(k,x))::L,h=>⟨let ⟨ka,e1,e2⟩:=h _ i4;⟨a,ka,rfl,e1,e2⟩,rm.mk fun t ht=>h t (i3 _ ht)⟩
noncomputable def nU (v d:Addr):HO:=.ext fun h=>h.get? v=some { cls:=.type "dict_items",data:=.fields #[.ref d] }
section
variable {X:Cx}{pins:List (Addr × Obj)}{σ:St}{H:Hp}{s:d9}
theorem C8.lays {N:Hp}{h':Heap}{t':Nat} (I:C8 X pins σ H s) (k:∀b u,s.heap.get? b=some u->h'.get? b=some u)
  (ok:∀b o,s.heap.objs.size<=b->N b=some o->M9 X.prog X.w (fun b=>if b<s.heap.objs.size then H b else N b) h' b o):
  C8 X pins σ (fun b=>if b<s.heap.objs.size then H b else N b) { s with heap:=h',toks:=t' }:=by
 have lo:∀b o,H b=some o->(fun b=>if b<s.heap.objs.size then H b else N b) b=some o:=fun b o e=>by
  show (if b<s.heap.objs.size then H b else N b)=some o
  rw[if_pos (I.hok.lt e)];exact e
 refine I.un ⟨fun b o q _ _ _=>k b o q,fun b o q _ _ _=>⟨o.slots,k b o q⟩,fun b o q n _=>?_,fun b o q _=>⟨o,k b o q⟩,fun b xs q=>lo b _ q,fun b o u q=>lo b _ q,fun b ps q=>⟨#[],(lo b _ q).trans (by simp)⟩⟩ fun b o e=>?_
 ·show (if b<s.heap.objs.size then H b else N b)=none
  rw[if_pos (i5 q)];exact n
 ·by_cases hb:b<s.heap.objs.size
  ·have e':H b=some o:=by
    have:(if b<s.heap.objs.size then H b else N b)=some o:=e
    rwa [if_pos hb] at this
   exact (I.hok b o e').stay (fun c v _ q=>k c v q) (fun c q=>lo c _ q) fun c xs q=>lo c _ q
  ·have e':N b=some o:=by
    have:(if b<s.heap.objs.size then H b else N b)=some o:=e
    rwa [if_neg hb] at this
   exact ok b o (Hu hb) e'
noncomputable def HU (td:TE):TE:=fun σ H Q=>td σ H fun x H1=>∃d kvs,x=.ref d/\H1 d=some (.dT kvs)/\∀v,H1 v=none->Q (.ref v) (n8 H1 v (nU v d))
theorem Dh {e:Expr}{apos cpos:Pos}{td:TE} (ho:PE X e td) (hbase:jF e "items" X.env (eval e X.env)=eval e X.env:=by rfl) (hline:(apos.endLine == cpos.line)=true:=by rfl):
  PE X (.Call (.Attribute e "items" apos) [] [] cpos) (HU td):=by
 intro pins s σ H Q I h
 refine EB hbase hline (W8 (ho pins s σ H _ I h) fun v s1 ⟨x,H1,I1,r1,d,kvs,ex,hd,q⟩=>?_)
 subst ex
 cases r1
 obtain ⟨_,hsys,_,_,o,_,_,hob,hex,_⟩:=(show M9 X.prog X.w H1 s1.heap d (.dT kvs) from I1.hok d _ hd)
 refine ⟨"dict","dict.items",gN,gM,uP,⟨o,hob,hex.1⟩,fun a e=>by cases e;exact ⟨o,hob,hex.2.1⟩,cP rfl (Bz ?_)⟩
 refine qI hsys ⟨o,hob,hex.1⟩ ?_
 have hf:H1 s1.heap.objs.size=none:=I1.hok.fresh (i6 _)
 refine ⟨.ref s1.heap.objs.size,_,I1.laid (t':=s1.toks) (o:=nU s1.heap.objs.size d) (fun b o e=>d7 _ e) (i6 _) ?_,rfl,q _ hf⟩
 exact ⟨j9 _ rfl,⟨_,j9 _ rfl⟩,fun h1 h2 a b=>b _ a⟩
theorem ij {β:Type}:∀{as:List Addr}{bs:List β}{j:Nat}{a:Addr}{b:β},as.Nodup->as[j]?=some a->bs[j]?=some b->(as.zip bs).lookup a=some b
 | [],_,j,a,b,_,h,_=>by simp at h
 | x::as,[],j,a,b,_,_,h=>by simp at h
 | x::as,y::bs,0,a,b,_,h1,h2=>by
  simp at h1 h2
  subst h1 h2
  rw[au,E5];simp
 | x::as,y::bs,j+1,a,b,hn,h1,h2=>by
  rw[P7] at hn
  have ha:a∈as:=m8 (show as[j]?=some a by simpa using h1)
  have ne:a≠x:=fun e=>hn.1 (e ▸ ha)
  rw[au,E5,show (a == x)=false from beq_eq_false_iff_ne.mpr ne]
  exact ij hn.2 (by simpa using h1) (by simpa using h2)
theorem qz {β:Type}:∀{as:List Addr}{bs:List β}{a:Addr}{b:β},(as.zip bs).lookup a=some b->∃j:Nat,as[j]?=some a/\bs[j]?=some b
 | [],_,a,b,h=>by simp at h
 | x::as,[],a,b,h=>by simp at h
 | x::as,y::bs,a,b,h=>by
  rw[au,E5] at h
  by_cases e:a=x
  ·subst e
   simp at h
   exact ⟨0,rfl,by rw[h];rfl⟩
  ·rw[show (a == x)=false from beq_eq_false_iff_ne.mpr e] at h
   obtain ⟨j,h1,h2⟩:=qz h
   exact ⟨j+1,by simpa using h1,by simpa using h2⟩
theorem zB (ns:List Int):(ns.map (S0:Int->S6)).map kV=ns.map V.int:=by rw[R8];rfl
theorem FV {P:j7}{w:u9}{h:Heap}{q:Addr}{ms:List Int} (ok:cG P w H h) (e:H q=some (.tup (ms.map V.int))):Br h (.ref q):=by
 obtain ⟨_,its,r,t⟩:=(show M9 P w H h q (.tup (ms.map V.int)) from ok q _ e)
 exact ⟨q,its,ms,rfl,t,qK r⟩
theorem Br.keep {h h':Heap}{v:b9} (x:Br h v) (k:∀a o,v=.ref a->h.get? a=some o->h'.get? a=some o):Br h' v:=by
 obtain ⟨a,us,ns,e,⟨o,ho,r⟩,i⟩:=x
 exact ⟨a,us,ns,e,⟨o,k a o e ho,r⟩,i⟩
theorem qG {h:Heap}:∀{as:List Addr}{fs:List b9},(∀(j:Nat) (a:Addr),as[j]?=some a->∃f q,fs[j]?=some f/\h.get? a=some { cls:=.type "tuple",data:=.seq #[f,q] })->as.length=fs.length->W.KatTups h (as.map n5) fs
 | [],[],_,_=>EG
 | a::as,f::fs,hh,hl=>by
  obtain ⟨f',q,e1,e2⟩:=hh 0 a rfl
  cases e1
  exact BR e2 rfl rfl rfl (qG (fun j b hb=>by
   obtain ⟨f,q,e1,e2⟩:=hh (j+1) b (by simpa using hb)
   exact ⟨f,q,by simpa using e1,e2⟩) (by simpa using hl))
 | [],_::_,_,hl=>by simp at hl
 | _::_,[],_,hl=>by simp at hl
end
section
variable {K:m6}{σ0:St}{te:TE}{H:Hp}{F:List V->Hp->Prop}
end
theorem wK:∀ns:List Int,L6 (ns.map K8)=true
 | []=>rfl
 | n::ns=>by
  show L6 (.int n::ns.map K8)=true
  unfold L6
  rw[wK ns]
  first|rfl|simp[N3]
theorem zL:∀ns:List Int,N4 (ns.map K8)<=1
 | []=>by first|decide|simp[N4]
 | n::ns=>by
  have:=zL ns
  show N4 (.int n::ns.map K8)<=1
  unfold N4
  have h:V9 (.int n)<=1:=by first|decide|simp[V9]
  lia
theorem Lj (ns:List Int):N3 (DI ns)=true/\V9 (DI ns)<=2:=by
 refine ⟨?_,?_⟩
 ·show N3 (.tuple (ns.map K8))=true
  unfold N3
  exact wK ns
 ·have:=zL ns
  show V9 (.tuple (ns.map K8))<=2
  unfold V9
  lia
theorem Lr (a b:List Int):aj (DI a) (DI b)=decide (a=b):=by unfold DI aj;exact GP a b
end L2
namespace Mq
open PySem PySem.Spec L2 Mt Md
noncomputable abbrev F0:=List (List Int × Rat)
noncomputable def bw:F0->List Int->Rat->F0
 | [],k,x=>[(k,x)]
 | p::D,k,x=>if p.1=k then (p.1,p.2+x)::D else p::bw D k x
noncomputable def fh:F0->List Int->Rat
 | [],_=>0
 | p::D,k=>if p.1=k then p.2 else fh D k
noncomputable def aG:F0->(List Int->Rat)->Rat
 | [],_=>0
 | p::D,φ=>p.2*φ p.1+aG D φ
theorem S5 (p:List Int × Rat) (D:F0) (φ:List Int->Rat):aG (p::D) φ=p.2*φ p.1+aG D φ:=rfl
theorem qC (k:List Int) (x:Rat) (φ:List Int->Rat):∀D:F0,aG (bw D k x) φ=aG D φ+x*φ k
 | []=>by show x*φ k+0=0+x*φ k;grind
 | p::D=>by
  unfold bw
  split
  ·rename_i e
   rw[S5,S5]
   show (p.2+x)*φ p.1+_=_
   rw[e];grind
  ·rw[S5,S5,qC k x φ D];grind
theorem eU {k:List Int}{x:Rat}:∀{D:F0}{p:List Int × Rat},p∈bw D k x->p.1=k ∨ ∃q∈D,q.1=p.1
 | [],p,h=>by
  unfold bw at h
  rw[List.mem_singleton.mp h];exact .inl rfl
 | q::D,p,h=>by
  unfold bw at h
  split at h
  ·rcases List.mem_cons.mp h with z|z
   ·subst z;exact .inr ⟨q,i4,rfl⟩
   ·exact .inr ⟨p,i3 _ z,rfl⟩
  ·rcases List.mem_cons.mp h with z|z
   ·subst z;exact .inr ⟨_,i4,rfl⟩
   ·rcases eU z with y|⟨r,hr,e⟩
    ·exact .inl y
    ·exact .inr ⟨r,i3 _ hr,e⟩
theorem lz (k:List Int) (x:Rat):∀D:F0,(bw D k x).length<=D.length+1
 | []=>by unfold bw;simp
 | p::D=>by
  unfold bw
  split
  ·simp
  ·have:=lz k x D
   rw[m9,m9];lia
noncomputable def fN (D:F0):Prop:=(D.map (·.1)).Nodup
theorem oE {k:List Int}{x:Rat}:∀{D:F0},fN D->fN (bw D k x)
 | [],_=>by unfold bw fN;simp
 | p::D,h=>by
  unfold fN at h
  rw[A9,P7] at h
  unfold bw
  split
  ·unfold fN;rw[A9,P7];exact h
  ·rename_i e
   unfold fN;rw[A9,P7]
   refine ⟨fun z=>?_,oE h.2⟩
   obtain ⟨q,hq,eq⟩:=List.mem_map.mp z
   rcases eU hq with y|⟨r,hr,er⟩
   ·exact e (by rw[<- eq,y])
   ·exact h.1 (List.mem_map.mpr ⟨r,hr,by rw[er,eq]⟩)
noncomputable def oi (H:Hp) (x:Rat) (v:V):Prop:=∃q,v=.ref q/\H q=some (.tup ((fr x).map V.int))
variable {H:Hp}{x:Rat}
theorem oi.same {H':Hp}{v:V} (h:∀a xs,H a=some (.tup xs)->H' a=some (.tup xs)):oi H x v->oi H' x v:=fun ⟨q,e,a⟩=>⟨q,e,h _ _ a⟩
noncomputable def QE (H:Hp):F0->List (List S6 × V)->Prop
 | [],[]=>True
 | p::T,kv::kvs=>kv.1=kI p.1/\oi H p.2 kv.2/\QE H T kvs
 | _,_=>False
theorem QE.mono {H H':Hp} (h:∀a xs,H a=some (.tup xs)->H' a=some (.tup xs)):∀{T:F0}{kvs:List (List S6 × V)},QE H T kvs->QE H' T kvs
 | [],[],_=>trivial
 | _::_,_::_,⟨a,b,c⟩=>⟨a,b.same h,QE.mono h c⟩
 | [],_::_,h'=>h'.elim
 | _::_,[],h'=>h'.elim
theorem QE.len {H:Hp}:∀{T:F0}{kvs:List (List S6 × V)},QE H T kvs->kvs.length=T.length
 | [],[],_=>rfl
 | _::_,_::_,⟨_,_,c⟩=>by rw[m9,m9,QE.len c]
 | [],_::_,h'=>h'.elim
 | _::_,[],h'=>h'.elim
theorem QE.get {H:Hp}:∀{T:F0}{kvs:List (List S6 × V)}{i:Nat}{k:List S6}{x:V},QE H T kvs->kvs[i]?=some (k,x)->∃p,T[i]?=some p/\k=kI p.1/\oi H p.2 x
 | p::_,_::_,0,_,_,⟨a,b,_⟩,h=>by cases h;exact ⟨p,rfl,a,b⟩
 | _::_,_::_,i+1,_,_,⟨_,_,c⟩,h=>QE.get (i:=i) c (by simpa using h)
 | [],[],_,_,_,_,h=>by simp at h
 | [],_::_,_,_,_,h',_=>h'.elim
 | _::_,[],_,_,_,h',_=>h'.elim
theorem QE.val {H:Hp}{k:List Int}{z:V} (hz:oi H 0 z):∀{T:F0}{kvs:List (List S6 × V)},QE H T kvs->oi H (fh T k) ((me kvs (kI k)).getD z)
 | [],[],_=>hz
 | p::T,kv::kvs,⟨a,b,c⟩=>by
  obtain ⟨kk,x⟩:=kv
  have a:kk=kI p.1:=a
  subst a
  unfold fh
  by_cases e:p.1=k
  ·rw[if_pos e,iX (by rw[e])];exact b
  ·rw[if_neg e,iY (fun z=>e (qH z))];exact QE.val hz c
 | [],_::_,h'=>h'.elim
 | _::_,[],h'=>h'.elim
theorem QE.any {H:Hp}{k:List Int}:∀{T:F0}{kvs:List (List S6 × V)},QE H T kvs->(kvs.any fun kv=>decide (kv.1=kI k))=decide (k∈T.map (·.1))
 | [],[],_=>rfl
 | p::T,kv::kvs,⟨a,_,c⟩=>by
  obtain ⟨kk,x⟩:=kv
  have a:kk=kI p.1:=a
  subst a
  show (decide (kI p.1=kI k) || kvs.any _)=_
  rw[QE.any c]
  by_cases e:p.1=k
  ·rw[decide_eq_true (show kI p.1=kI k by rw[e]),yU,decide_eq_true (by rw[<- e];simp)]
  ·rw[decide_eq_false (fun z=>e (qH z)),xl]
   congr 1
   simp[F6 e]
 | [],_::_,h'=>h'.elim
 | _::_,[],h'=>h'.elim
theorem QE.keep {H:Hp}{k:List Int}{v:V}:∀{T:F0}{kvs:List (List S6 × V)},QE H T kvs->¬ k∈T.map (·.1)->kvs.map (fun kv=>if kv.1=kI k then (kv.1,v) else kv)=kvs
 | [],[],_,_=>rfl
 | p::T,kv::kvs,⟨a,_,c⟩,h=>by
  obtain ⟨kk,x⟩:=kv
  have a:kk=kI p.1:=a
  subst a
  rw[A9,A0,not_or] at h
  show (if kI p.1=kI k then (kI p.1,v) else (kI p.1,x))::kvs.map _=(kI p.1,x)::kvs
  rw[if_neg (fun z=>h.1 (qH z).symm),QE.keep c h.2]
 | [],_::_,h',_=>h'.elim
 | _::_,[],h',_=>h'.elim
theorem QE.snoc {H:Hp}{k:List Int}{x:Rat}{v:V} (hv:oi H x v):∀{T:F0}{kvs:List (List S6 × V)},QE H T kvs->QE H (T++[(k,x)]) (kvs++[(kI k,v)])
 | [],[],_=>⟨rfl,hv,trivial⟩
 | p::T,kv::kvs,⟨a,b,c⟩=>⟨a,b,QE.snoc hv c⟩
 | [],_::_,h'=>h'.elim
 | _::_,[],h'=>h'.elim
theorem zZ {k:List Int}{x:Rat}:∀(D:F0),¬ k∈D.map (·.1)->bw D k x=D++[(k,x)]
 | [],_=>rfl
 | p::D,h=>by
  rw[A9,A0,not_or] at h
  unfold bw
  rw[if_neg (F6 h.1),zZ D h.2];rfl
theorem tH {k:List Int}:∀(D:F0),¬ k∈D.map (·.1)->fh D k=0
 | [],_=>rfl
 | p::D,h=>by
  rw[A9,A0,not_or] at h
  unfold fh
  rw[if_neg (F6 h.1),tH D h.2]
theorem QE.put {k:List Int}{v:V}:∀{T:F0}{kvs:List (List S6 × V)},QE H T kvs->fN T->oi H (fh T k+x) v->QE H (bw T k x) (jL kvs (kI k) v):=by
 intro T kvs q nd hv
 unfold jL
 rw[q.any]
 by_cases hk:k∈T.map (·.1)
 ·rw[decide_eq_true hk,if_pos rfl]
  induction T generalizing kvs with
  | nil=>simp at hk
  | cons p T ih =>
   cases kvs with
   | nil=>exact q.elim
   | cons kv kvs =>
    obtain ⟨a,b,c⟩:=q
    obtain ⟨kk,y⟩:=kv
    have a:kk=kI p.1:=a
    subst a
    unfold fN at nd
    rw[A9,P7] at nd
    unfold bw
    by_cases e:p.1=k
    ·rw[if_pos e]
     show QE H _ ((if kI p.1=kI k then _ else _)::kvs.map _)
     rw[if_pos (by rw[e]),c.keep (by rw[<- e];exact nd.1)]
     unfold fh at hv
     rw[if_pos e] at hv
     exact ⟨rfl,hv,c⟩
    ·rw[if_neg e]
     show QE H _ ((if kI p.1=kI k then _ else _)::kvs.map _)
     rw[if_neg (fun z=>e (qH z))]
     unfold fh at hv
     rw[if_neg e] at hv
     have hk':k∈T.map (·.1):=by
      rw[A9,A0] at hk
      exact hk.resolve_left (F6 e)
     exact ⟨rfl,b,ih c nd.2 hv hk'⟩
 ·rw[decide_eq_false hk,if_neg (by decide),zZ T hk]
  rw[tH T hk] at hv
  refine QE.snoc ?_ q
  rw[show (0:Rat)+x=x by grind] at hv
  exact hv
theorem QE.keys {H:Hp}:∀{T:F0}{kvs:List (List S6 × V)},QE H T kvs->∀kx∈kvs,(∃ns:List Int,kx.1=ns.map S0)/\∃(q:Addr) (ms:List Int),kx.2=.ref q/\H q=some (.tup (ms.map V.int))
 | [],[],_,kx,h=>by simp at h
 | p::T,kv::kvs,⟨a,⟨q,e,hq⟩,c⟩,kx,h=>by
  rcases List.mem_cons.mp h with z|z
  ·subst z;exact ⟨⟨p.1,a⟩,q,_,e,hq⟩
  ·exact QE.keys c kx z
 | [],_::_,h',_,_=>h'.elim
 | _::_,[],h',_,_=>h'.elim
theorem QE.perm :∀{T:F0}{kvs kvs':List (List S6 × V)},QE H T kvs->kvs'.Perm kvs->∃T':F0,T'.Perm T/\QE H T' kvs':=by
 intro T kvs kvs' q h0
 have h:=h0.symm
 clear h0
 induction h generalizing T with
 | nil=>exact ⟨T,.refl _,q⟩
 | cons kv _ ih =>
  cases T with
  | nil=>exact q.elim
  | cons p T =>
   obtain ⟨a,b,c⟩:=q
   obtain ⟨T',h1,h2⟩:=ih c
   exact ⟨p::T',h1.cons p,a,b,h2⟩
 | swap x y l =>
  cases T with
  | nil=>exact q.elim
  | cons p T =>
   cases T with
   | nil=>exact q.2.2.elim
   | cons p' T =>
    obtain ⟨a,b,a',b',c⟩:=q
    exact ⟨p'::p::T,Cc _ _ _,a',b',a,b,c⟩
 | trans _ _ h1 h2 =>
  obtain ⟨T1,e1,q1⟩:=h1 q
  obtain ⟨T2,e2,q2⟩:=h2 q1
  exact ⟨T2,e2.trans e1,q2⟩
noncomputable def P4 (x:Rat) (s:Int):List (Int × List Int)->F0->F0
 | [],D=>D
 | b::bs,D=>P4 x s bs (bw D b.2 (x*cut b.1 s))
noncomputable def R4 (rs:List (List Int)):F0->F0->F0
 | [],D=>D
 | p::T,D=>R4 rs T (P4 p.2 p.1.sum (pj rs p.1) D)
noncomputable def jX (rs:List (List Int)) (T:F0):F0:=R4 rs T []
noncomputable def nQ (rs:List (List Int)):Nat->F0->F0
 | 0,D=>D
 | k+1,D=>jX rs (nQ rs k D)
noncomputable def II (rs:List (List Int)) (φ:List Int->Rat) (u:List Int):Rat:=rK ((J9 u.length).map fun i=>yY u i*φ (bP u (rs.getD i [])))
theorem kA (x:Rat) (s:Int) (b:Int × List Int):∀(bs:List (Int × List Int)) (D:F0),P4 x s (bs++[b]) D=bw (P4 x s bs D) b.2 (x*cut b.1 s)
 | [],D=>rfl
 | c::bs,D=>by
  show P4 x s (bs++[b]) (bw D c.2 (x*cut c.1 s))=_
  rw[kA x s b bs];rfl
theorem nD (rs:List (List Int)) (p:List Int × Rat):∀(T D:F0),R4 rs (T++[p]) D=P4 p.2 p.1.sum (pj rs p.1) (R4 rs T D)
 | [],D=>rfl
 | c::T,D=>by
  show R4 rs (T++[p]) (P4 c.2 c.1.sum (pj rs c.1) D)=_
  rw[nD rs p T];rfl
theorem mH (x:Rat) (s:Int) (φ:List Int->Rat):∀(bs:List (Int × List Int)) (D:F0),aG (P4 x s bs D) φ=aG D φ+x*rK (bs.map fun b=>cut b.1 s*φ b.2)
 | [],D=>by show _=_+x*0;unfold P4;grind
 | b::bs,D=>by
  unfold P4
  rw[mH x s φ bs,qC,A9]
  show _=_+x*(cut b.1 s*φ b.2+rK _)
  grind
theorem pB {f:Nat->Rat} (n:Nat):rK ((J9 (n+1)).map f)=f 0+rK ((J9 n).map fun i=>f (i+1)):=by
 rw[List.range_succ_eq_map,A9,R8];rfl
theorem rZ (rs:List (List Int)) (φ:List Int->Rat) (u:List Int) {s:Int} (hs:0<s):∀(bs:List Int) (i:Nat),(∀b∈bs,0<=b)->rK ((eE rs u i bs).map fun b=>cut b.1 s*φ b.2)=rK ((J9 bs.length).map fun j=>cut (bs.getD j 0) s*φ (bP u (rs.getD (i+j) [])))
 | [],i,_=>rfl
 | b::bs,i,h=>by
  have ih:=rZ rs φ u hs bs (i+1) fun x hx=>h x (i3 _ hx)
  have hb:=h b i4
  have e:((J9 bs.length).map fun j=>cut ((b::bs).getD (j+1) 0) s*φ (bP u (rs.getD (i+(j+1)) [])))=((J9 bs.length).map fun j=>cut (bs.getD j 0) s*φ (bP u (rs.getD (i+1+j) []))):=by
   refine Ca fun j _=>?_
   rw[show i+(j+1)=i+1+j by lia];rfl
  rw[m9,pB (f:=fun j=>cut ((b::bs).getD j 0) s*φ (bP u (rs.getD (i+j) []))),e,<- ih,jv]
  split
  ·rfl
  ·have:b=0:=by lia
   subst this
   show _=cut 0 s*_+_
   rw[Ei hs];grind
variable {u:List Int}
theorem Cv (rs:List (List Int)) (φ:List Int->Rat) (h:∀b∈u,0<=b) (hs:0<u.sum):rK ((pj rs u).map fun b=>cut b.1 u.sum*φ b.2)=II rs φ u:=by
 unfold pj II yY
 rw[rZ rs φ u hs u 0 h]
 simp
theorem qA (rs:List (List Int)) (φ:List Int->Rat):∀(T D:F0),(∀p∈T,(∀b∈p.1,0<=b)/\0<p.1.sum)->aG (R4 rs T D) φ=aG D φ+aG T (II rs φ)
 | [],D,_=>by unfold R4;show _=_+0;grind
 | p::T,D,h=>by
  have hp:=h p i4
  unfold R4
  rw[qA rs φ T _ fun q hq=>h q (i3 _ hq),mH,Cv rs φ hp.1 hp.2,S5];grind
variable {rs:List (List Int)}
theorem AQ {φ:List Int->Rat}{T:F0} (h:∀p∈T,(∀b∈p.1,0<=b)/\0<p.1.sum):aG (jX rs T) φ=aG T (II rs φ):=by
 unfold jX
 rw[qA rs φ T [] h]
 show 0+_=_;grind
structure Vq (N B:Nat) (x:Rat):Prop where
 nn:0<=x
 le:x<=(B:Rat)
 dv:∃z:Int,x*(N:Rat)=(z:Rat)
variable {N B C:Nat}
theorem Vq.mono (h:Vq N B x) (l:B<=C):Vq N C x:=⟨h.nn,by
 have:((B:Nat):Rat)<=((C:Nat):Rat):=by exact_mod_cast l
 have:=h.le
 grind,h.dv⟩
theorem Vq.zero (N B:Nat):Vq N B 0:=⟨by grind,by exact_mod_cast v8 B,0,by grind⟩
variable {y:Rat}
theorem Vq.add (h:Vq N B x) (k:Vq N C y):Vq N (B+C) (x+y):=by
 obtain ⟨z,hz⟩:=h.dv
 obtain ⟨t,ht⟩:=k.dv
 have h1:=h.nn;have h2:=h.le;have k1:=k.nn;have k2:=k.le
 refine ⟨by grind,?_,z+t,?_⟩
 ·have:((B+C:Nat):Rat)=(B:Rat)+(C:Rat):=by push_cast;rfl
  grind
 ·have:((z+t:Int):Rat)=(z:Rat)+(t:Rat):=by push_cast;rfl
  grind
theorem Vq.mul {M:Nat}(h:Vq N B x) (k:Vq M C y):Vq (N*M) (B*C) (x*y):=by
 obtain ⟨z,hz⟩:=h.dv
 obtain ⟨t,ht⟩:=k.dv
 have h1:=h.nn;have h2:=h.le;have k1:=k.nn;have k2:=k.le
 have hB:(0:Rat)<=(B:Rat):=by grind
 refine ⟨kS h1 k1,?_,z*t,?_⟩
 ·have e:((B*C:Nat):Rat)=(B:Rat)*(C:Rat):=by push_cast;rfl
  rw[e]
  have a1:=ee h2 k1
  have a2:=Rat.mul_le_mul_of_nonneg_left k2 hB
  grind
 ·have e1:((N*M:Nat):Rat)=(N:Rat)*(M:Rat):=by push_cast;rfl
  have e2:((z*t:Int):Rat)=(z:Rat)*(t:Rat):=by push_cast;rfl
  rw[e1,e2,<- hz,<- ht];grind
theorem Vq.one (N:Nat):Vq N 1 1:=⟨by grind,by grind,N,by
 have:((N:Int):Rat)=(N:Rat):=by norm_cast
 grind⟩
noncomputable def LL:Nat:=(J9 200).foldl (fun a i=>Nat.lcm a (i+1)) 1
theorem Js {s:Nat} (h0:0<s) (h:s<=200):∃q,LL=s*q:=by
 have h1:(J9 201).all (fun s=>s == 0 || LL % s == 0)=true:=by decide +kernel
 have h2:=List.all_eq_true.mp h1 s (List.mem_range.mpr (by lia))
 have h3:LL % s=0:=by
  have:(s == 0)=false:=by simp;lia
  rw[this,xl] at h2
  exact beq_iff_eq.mp h2
 exact ⟨LL / s,(Nat.mul_div_cancel' (Nat.dvd_of_mod_eq_zero h3)).symm⟩
theorem Ey:LL<=2 ^ 300:=by decide +kernel
theorem yM:0<LL:=by decide +kernel
variable {s:Int}
theorem il {t:Int} (hs:0<s):cut t s*(s:Rat)=(t:Rat):=by
 unfold cut
 have e:(((s.toNat:Nat):Int):Rat)=(s:Rat):=by congr 1;lia
 rw[Rat.mkRat_eq_div,<- e]
 have h:((s.toNat:Nat):Rat)≠0:=by
  intro z
  have:s.toNat=0:=by exact_mod_cast z
  lia
 have e2:(((s.toNat:Nat):Int):Rat)=((s.toNat:Nat):Rat):=by norm_cast
 rw[e2]
 exact Rat.div_mul_cancel h
theorem jx {s:Rat} (hs:0<s) (h:x*s<=y*s):x<=y:=Rat.le_of_mul_le_mul_right h hs
theorem AC {s:Rat} (hs:0<s) (h:x*s=y*s):x=y:=by
 have h1:=jx hs (show x*s<=y*s by grind)
 have h2:=jx hs (show y*s<=x*s by grind)
 grind
theorem lI (hs:0<s):(0:Rat)<(s:Rat):=by exact_mod_cast hs
theorem uH {t:Int} (h0:0<=t) (h1:t<=s) (hs:0<s) (h2:s<=200):Vq LL 1 (cut t s):=by
 have hm:=il (t:=t) hs
 have hp:=lI hs
 obtain ⟨q,hq⟩:=Js (s:=s.toNat) (by lia) (by lia)
 refine ⟨jx hp ?_,jx hp ?_,t*q,?_⟩
 ·rw[hm]
  have:(0:Rat)<=(t:Rat):=by exact_mod_cast h0
  grind
 ·rw[hm]
  have:(t:Rat)<=(s:Rat):=by exact_mod_cast h1
  have e:((1:Nat):Rat)=1:=rfl
  rw[e];grind
 ·rw[hq]
  have e1:((s.toNat*q:Nat):Rat)=((s.toNat:Nat):Rat)*(q:Rat):=by push_cast;rfl
  have e2:((s.toNat:Nat):Rat)=(s:Rat):=by
   have:(((s.toNat:Nat):Int):Rat)=(s:Rat):=by congr 1;lia
   rw[<- this];norm_cast
  have e3:((t*(q:Int):Int):Rat)=(t:Rat)*(q:Rat):=by push_cast;rfl
  rw[e1,e2,e3,<- hm];grind
variable {n:Nat}
theorem Vq.bd (h:Vq N B x) (h0:0<N) (h1:N*B<=2 ^ n) (h2:N<=2 ^ n):Bd n x:=by
 obtain ⟨z,hz⟩:=h.dv
 have hp:(0:Int)<(N:Int):=by lia
 have hm:=il (t:=z) hp
 have e:(((N:Nat):Int):Rat)=(N:Rat):=by norm_cast
 rw[e] at hm
 have hq:(0:Rat)<(N:Rat):=by rw[<- e];exact lI hp
 have ex:x=cut z N:=AC hq (by rw[hz,hm])
 have l0:(0:Rat)<=(z:Rat):=by rw[<- hz];exact kS h.nn (by grind)
 have l1:(z:Rat)<=((B*N:Nat):Rat):=by
  have e2:((B*N:Nat):Rat)=(B:Rat)*(N:Rat):=by push_cast;rfl
  rw[<- hz,e2]
  exact ee h.le (by grind)
 have m0:0<=z:=by exact_mod_cast l0
 have m1:z<=((B*N:Nat):Int):=by exact_mod_cast l1
 rw[ex]
 rw[Ms] at h1
 exact Bd.cut hp (by lia) (by lia)
theorem DQ:∀{l:List Int},(∀x∈l,0<=x)->∀x∈l,x<=l.sum
 | [],_,x,h=>by simp at h
 | a::l,h,x,hx=>by
  have h1:=h a i4
  have h2:=fj fun y hy=>h y (i3 _ hy)
  rw[W6]
  rcases List.mem_cons.mp hx with e|e
  ·lia
  ·have:=DQ (fun y hy=>h y (i3 _ hy)) x e
   lia
variable {m:Nat}
theorem jn (h:jP n m u) (k:Nat):u.getD k 0<=u.sum:=by
 rw[A2]
 cases e:u[k]? with
 | none=>have:=h.pos;show (0:Int)<=_;lia
 | some x=>exact DQ (fun x hx=>(h.nn x hx).1) x (m8 e)
theorem oz (h:jP n m u) (n4:n<=4) (hm:m<=50):u.sum<=200:=by
 have:=Mt.Cz (m:=50) (l:=u) fun x hx=>by have:=(h.nn x hx).2;lia
 rw[h.len] at this
 lia
noncomputable def cY (N B:Nat) (D:F0):Prop:=∀p∈D,Vq N B p.2
theorem cY.add {N B C:Nat}{k:List Int}{x:Rat} (hx:Vq N C x):∀{D:F0},cY N B D->cY N (B+C) (bw D k x)
 | [],_=>fun p hp=>by
  unfold bw at hp
  rw[List.mem_singleton.mp hp]
  exact hx.mono (by lia)
 | q::D,h=>fun p hp=>by
  unfold bw at hp
  split at hp
  ·rcases List.mem_cons.mp hp with z|z
   ·rw[z];exact (h q i4).add hx
   ·exact (h p (i3 _ z)).mono (by lia)
  ·rcases List.mem_cons.mp hp with z|z
   ·rw[z];exact (h q i4).mono (by lia)
   ·exact cY.add hx (fun r hr=>h r (i3 _ hr)) p z
theorem cY.val {N B:Nat}{k:List Int}:∀{D:F0},cY N B D->Vq N B (fh D k)
 | [],_=>Vq.zero N B
 | q::D,h=>by
  unfold fh
  split
  ·exact h q i4
  ·exact cY.val fun r hr=>h r (i3 _ hr)
theorem cY.mono {N B C:Nat}{D:F0} (h:cY N B D) (l:B<=C):cY N C D:=fun p hp=>(h p hp).mono l
noncomputable def fx (n m:Nat) (D:F0):Prop:=∀p∈D,jP n m p.1
theorem fx.add {D:F0}{k:List Int}(h:fx n m D) (hk:jP n m k):fx n m (bw D k x):=fun p hp=>by
 rcases eU hp with e|⟨q,hq,e⟩
 ·rw[e];exact hk
 ·rw[<- e];exact h q hq
theorem eG {rs:List (List Int)}{u:List Int}:∀{bs:List Int}{i:Nat}{b:Int × List Int},b∈eE rs u i bs->0<b.1
 | [],_,_,h=>by unfold eE at h;simp at h
 | x::bs,i,b,h=>by
  unfold eE at h
  split at h
  ·rcases List.mem_cons.mp h with e|e
   ·subst e;assumption
   ·exact eG e
  ·exact eG h
theorem qy {b:Int × List Int} (hR:kF n 5 rs) (hu:jP n m u) (h:b∈pj rs u):(0<b.1/\b.1<=u.sum)/\jP n (m+5) b.2:=by
 have hp:=eG h
 obtain ⟨j,h1,h2,h3⟩:=ly h
 rw[K5] at h3
 have hj:j<n:=by rw[<- hu.len];exact h1
 refine ⟨⟨hp,?_⟩,?_⟩
 ·rw[h2];exact jn hu j
 ·rw[h3];exact hu.add (hR.at hj)
theorem pY {n m N E:Nat}{x:Rat}{s:Int} (hx:Vq N E x) (hs:0<s) (hs2:s<=200):∀(bs:List (Int × List Int)) {D:F0}{B:Nat},(∀b∈bs,(0<b.1/\b.1<=s)/\jP n m b.2)->fx n m D->fN D->cY (N*LL) B D ->
  fx n m (P4 x s bs D)/\fN (P4 x s bs D)/\cY (N*LL) (B+E*bs.length) (P4 x s bs D)/\(P4 x s bs D).length<=D.length+bs.length
 | [],D,B,_,h1,h2,h3=>⟨h1,h2,h3,by unfold P4;simp⟩
 | b::bs,D,B,h,h1,h2,h3=>by
  unfold P4
  have hb:=h b i4
  have hv:Vq (N*LL) E (x*cut b.1 s):=(hx.mul (uH (by lia) hb.1.2 hs hs2)).mono (by lia)
  obtain ⟨a1,a2,a3,a4⟩:=pY hx hs hs2 bs (D:=bw D b.2 (x*cut b.1 s)) (fun c hc=>h c (i3 _ hc)) (h1.add hb.2) (oE h2) (h3.add hv)
  refine ⟨a1,a2,a3.mono ?_,?_⟩
  ·rw[m9,V0];lia
  ·have:=lz b.2 (x*cut b.1 s) D
   rw[m9];lia
theorem zr (hu:jP n m u):(pj rs u).length<=n:=by
 have:=qD (rs:=rs) (u:=u) u 0
 unfold pj;rw[<- hu.len];exact this
theorem mF {n m N E:Nat}{rs:List (List Int)} (hR:kF n 5 rs) (n4:n<=4) (hm:m<=50):∀(T:F0) {D:F0}{B:Nat},fx n m T->cY N E T->fx n (m+5) D->fN D->cY (N*LL) B D ->
  fx n (m+5) (R4 rs T D)/\fN (R4 rs T D)/\cY (N*LL) (B+E*(4*T.length)) (R4 rs T D)/\(R4 rs T D).length<=D.length+n*T.length
 | [],D,B,_,_,h1,h2,h3=>⟨h1,h2,h3,by unfold R4;simp⟩
 | p::T,D,B,h,hE,h1,h2,h3=>by
  unfold R4
  have hp:=h p i4
  obtain ⟨b1,b2,b3,b4⟩:=pY (m:=m+5) (hE p i4) hp.pos (oz hp n4 hm) (pj rs p.1) (fun b hb=>qy hR hp hb) h1 h2 h3
  obtain ⟨a1,a2,a3,a4⟩:=mF hR n4 hm T (fun q hq=>h q (i3 _ hq)) (fun q hq=>hE q (i3 _ hq)) b1 b2 b3
  have e:=zr (rs:=rs) hp
  refine ⟨a1,a2,a3.mono ?_,?_⟩
  ·have:E*(pj rs p.1).length<=E*4:=S1 _ (by lia)
   rw[m9,V0 4,V0 E];lia
  ·rw[m9,V0,BX];lia
theorem DH {E:Nat}{T:F0} (hR:kF n 5 rs) (n4:n<=4) (hm:m<=50) (h:fx n m T) (hE:cY N E T):fx n (m+5) (jX rs T)/\fN (jX rs T)/\cY (N*LL) (E*(4*T.length)) (jX rs T)/\(jX rs T).length<=n*T.length:=by
 obtain ⟨a,b,c,d⟩:=mF (D:=[]) (B:=0) hR n4 hm T h hE (fun p hp=>by simp at hp) (by unfold fN;simp) (fun p hp=>by simp at hp)
 exact ⟨a,b,by rw[K5] at c;exact c,by rw[O0,K5] at d;exact d⟩
theorem nP {n:Nat}{rs:List (List Int)}{u:List Int} (hR:kF n 5 rs) (n4:n<=4) (hu:jP n 20 u):∀k:Nat,k<=6->fx n (20+5*k) (nQ rs k [(u,1)])/\fN (nQ rs k [(u,1)])/\cY (LL ^ k) (4 ^ (k*k)) (nQ rs k [(u,1)])/\(nQ rs k [(u,1)]).length<=4 ^ k
 | 0,_=>⟨fun p hp=>by rw[List.mem_singleton.mp hp];exact hu,by unfold nQ fN;simp,fun p hp=>by rw[List.mem_singleton.mp hp];exact Vq.one _,by show 1<=1;lia⟩
 | k+1,hk=>by
  obtain ⟨a1,a2,a3,a4⟩:=nP hR n4 hu k (by lia)
  obtain ⟨b1,b2,b3,b4⟩:=DH hR n4 (by lia) a1 a3
  refine ⟨?_,b2,?_,?_⟩
  ·rw[show 20+5*(k+1)=20+5*k+5 by lia];exact b1
  ·rw[fP LL]
   refine b3.mono ?_
   have h1:4*(nQ rs k [(u,1)]).length<=4 ^ (k+1):=by rw[fP];lia
   refine j0 (S1 _ h1) ?_
   rw[<- Q7]
   refine B1 (by decide) ?_
   have:(k+1)*(k+1)=k*k+k+k+1:=by rw[Nat.add_mul,V0];lia
   lia
  ·show (jX rs _).length<=4 ^ (k+1)
   have:n*(nQ rs k [(u,1)]).length<=4*4 ^ k:=E4 n4 a4
   rw[fP];lia
theorem yL (k:Nat):LL ^ k<=2 ^ (300*k):=by
 rw[Nat.pow_mul];exact Nat.pow_le_pow_left Ey k
theorem uM (k:Nat):0<LL ^ k:=Nat.pow_pos yM
end Mq
namespace G
open PySem PySem.Spec PyProof.Rows L2 Mt Md Mq
structure Ct2 (mg:Str->Option b9):Prop where
 stand:∃t,mg "MOST_STAND_DRAWS"=some (.int 6 t)
structure Mf (mg:Str->Option b9):Prop where
 enumerate:mg "enumerate"=none
 sorted:mg "sorted"=none
theorem Ky {k:Int} (h1:1<=k) (h4:k<=4):Sm k:=by
 have h:k=1 ∨ k=2 ∨ k=3 ∨ k=4:=by lia
 rcases h with rfl|rfl|rfl|rfl <;> (unfold Sm;decide +kernel)
theorem mf {m:Int}{d:A7} (h:cm m d=true):∃ns:List Int,d=DI ns/\1<=ns.length/\ns.length<=4/\(∀x∈ns,0<=x/\x<=m)/\0<ns.sum:=by
 unfold cm at h
 rw[y6,y6,y6] at h
 obtain ⟨hw,⟨h1,h4⟩,hs⟩:=h
 obtain ⟨ns,e,hn⟩:=eD hw
 subst e
 rw[cA] at h1 h4
 rw[oA] at hs
 have h1':=of_decide_eq_true h1
 have h4':=of_decide_eq_true h4
 exact ⟨ns,rfl,by lia,by lia,hn,of_decide_eq_true hs⟩
variable {n:Nat}
theorem Y7 {i:Int}(h:i.natAbs<=2 ^ n) (hn:n<=100000):A6 i<=2 ^ 20:=by
 unfold A6
 split
 ·exact v8 _
 ·rename_i hz
  have hz':i.natAbs≠0:=fun e=>hz (by rw[beq_iff_eq];lia)
  have h2:i.natAbs.log2<n+1:=(fb hz').mpr (B8 h (Y8 (by decide) (by lia)))
  lia
theorem DP {i:Int}(h0:0<i) (h:i.natAbs<=2 ^ n) (hn:n<8999):i.natAbs.log2<9000:=by
 rw[fb (by lia)]
 exact B8 h (Y8 (by decide) (by lia))
theorem wk {x y:Int} (hx:0<=x) (hy:0<y):U8 y (x % y)=U8 x y:=by
 have h1:(x % y).natAbs=x.natAbs % y.natAbs:=by
  rw[Int.natAbs_emod_of_nonneg hx]
 unfold U8
 rw[h1,Mv x.natAbs,Nat.gcd_rec y.natAbs x.natAbs,Mv]
theorem xW {k:Int}{d:A7} (h:bQ k d=true):∃(rs:List (List Int)) (n:Nat),d=DR rs/\k=n/\Mt.kF n 5 rs:=by
 cases d with
 | tuple ds =>
  have h':(decide ((ds.length:Int)=k)&&ds.all (fun r=>O3 0 5 r&&decide ((bt r:Int)=k)))=true:=h
  rw[y6] at h'
  obtain ⟨h1,h2⟩:=h'
  have h1':=of_decide_eq_true h1
  have:∀(es:List A7),es.all (fun r=>O3 0 5 r&&decide ((bt r:Int)=k))=true->∃rs:List (List Int),es=rs.map DI/\∀r∈rs,(r.length:Int)=k/\∀x∈r,0<=x/\x<=5:=by
   intro es
   induction es with
   | nil=>exact fun _=>⟨[],rfl,by simp⟩
   | cons e es ih =>
    intro ha
    rw[xh,y6,y6] at ha
    obtain ⟨⟨hw,hl⟩,hr⟩:=ha
    obtain ⟨rs,e1,e2⟩:=ih hr
    obtain ⟨ns,e3,hn⟩:=eD hw
    subst e3
    rw[cA] at hl
    refine ⟨ns::rs,by rw[e1];rfl,fun r hr'=>?_⟩
    rcases List.mem_cons.mp hr' with z|z
    ·subst z;exact ⟨of_decide_eq_true hl,hn⟩
    ·exact e2 r z
  obtain ⟨rs,e1,e2⟩:=this ds h2
  refine ⟨rs,ds.length,by rw[e1],h1'.symm,⟨by rw[e1,d8],fun r hr=>⟨?_,fun x hx=>?_⟩⟩⟩
  ·have:=(e2 r hr).1;lia
  ·have:=(e2 r hr).2 x hx;lia
 | _=>cases (show false=true from h)
theorem Kz:Sm 6:=by unfold Sm;decide +kernel
mutual
theorem uO {l T:Addr}{H:Hp}{ps:List (List S6 × V)} (hT:H T=some (.dT ps)):∀{d:A7}{v:V},Dt l H d v->Dt T H d v
 | .none,_,h=>by unfold Dt at h ⊢;exact h
 | .bool _,_,h=>by unfold Dt at h ⊢;exact h
 | .int _,_,h=>by unfold Dt at h ⊢;exact h
 | .str _,_,h=>by unfold Dt at h ⊢;exact h
 | .tuple ds,_,h=>by
  unfold Dt at h ⊢
  obtain ⟨a,xs,e,n,q,r⟩:=h
  exact ⟨a,xs,e,(fun z=>by rw[z,hT] at q;cases q),q,uN hT r⟩
 | .list ds,_,h=>by
  unfold Dt at h ⊢
  obtain ⟨a,xs,e,n,q,r⟩:=h
  exact ⟨a,xs,e,(fun z=>by rw[z,hT] at q;cases q),q,uN hT r⟩
 | .dict kvs,_,h=>by
  unfold Dt at h ⊢
  obtain ⟨z,a,e,n,q⟩:=h
  exact ⟨z,a,e,(fun z=>by rw[z,hT] at q;cases q),q⟩
theorem uN {l T:Addr}{H:Hp}{ps:List (List S6 × V)} (hT:H T=some (.dT ps)):∀{ds:List A7}{xs:List V},U3 l H ds xs->U3 T H ds xs
 | [],_,h=>by unfold U3 at h ⊢;exact h
 | d::ds,_,h=>by
  unfold U3 at h ⊢
  obtain ⟨x,r,e,q1,q2⟩:=h
  exact ⟨x,r,e,uO hT q1,uN hT q2⟩
end
noncomputable def cM (H:Hp):List (Int × List Int)->List V->Prop
 | [],ts=>ts=[]
 | b::bs,ts=>∃q w r,ts=.ref q::r/\H q=some (.tup [.int b.1,.ref w])/\H w=some (.tup (b.2.map V.int))/\cM H bs r
theorem cM.mono {H H':Hp} (h:∀a xs,H a=some (.tup xs)->H' a=some (.tup xs)):∀{bs:List (Int × List Int)}{ts:List V},cM H bs ts->cM H' bs ts
 | [],_,p=>p
 | _::_,_,⟨q,w,r,e,h1,h2,h3⟩=>⟨q,w,r,e,h _ _ h1,h _ _ h2,cM.mono h h3⟩
theorem cM.snoc {H:Hp}{b:Int × List Int}{q w:Addr} (h1:H q=some (.tup [.int b.1,.ref w])) (h2:H w=some (.tup (b.2.map V.int))):∀{bs:List (Int × List Int)}{ts:List V},cM H bs ts->cM H (bs++[b]) (ts++[.ref q])
 | [],_,p=>by
  rw[show _=[] from p]
  exact ⟨q,w,[],rfl,h1,h2,rfl⟩
 | _::_,_,⟨q',w',r,e,a1,a2,a3⟩=>⟨q',w',r++[.ref q],by rw[e];rfl,a1,a2,cM.snoc h1 h2 a3⟩
theorem cM.len {H:Hp}:∀{bs:List (Int × List Int)}{ts:List V},cM H bs ts->ts.length=bs.length
 | [],_,p=>by rw[show _=[] from p];rfl
 | _::_,_,⟨q,w,r,e,_,_,h3⟩=>by rw[e,m9,m9,cM.len h3]
theorem cM.get {H:Hp}:∀{bs:List (Int × List Int)}{ts:List V}{i:Nat}{t:V},cM H bs ts->ts[i]?=some t->∃b q w,bs[i]?=some b/\t=.ref q/\H q=some (.tup [.int b.1,.ref w])/\H w=some (.tup (b.2.map V.int))
 | [],_,_,_,p,h=>by rw[show _=[] from p] at h;simp at h
 | b::_,_,0,_,⟨q,w,r,e,h1,h2,_⟩,h=>by
  rw[e] at h;cases h
  exact ⟨b,q,w,rfl,rfl,h1,h2⟩
 | _::_,_,i+1,_,⟨q,w,r,e,_,_,h3⟩,h=>by
  rw[e] at h
  obtain ⟨b,q',w',e1,e2,e3,e4⟩:=cM.get (i:=i) h3 (by simpa using h)
  exact ⟨b,q',w',by simpa using e1,e2,e3,e4⟩
theorem sg (rs:List (List Int)) (u:List Int) (b:Int):∀(bs:List Int) (i:Nat),eE rs u i (bs++[b])=eE rs u i bs++(if 0<b then [(b,bP u (rs.getD (i+bs.length) []))] else [])
 | [],i=>by
  show eE rs u i [b]=[]++_
  rw[jv]
  split <;> rfl
 | x::bs,i=>by
  show eE rs u i (x::(bs++[b]))=_
  rw[jv,jv,sg rs u b bs (i+1),m9,show i+1+bs.length=i+(bs.length+1) by lia]
  by_cases h:0<x
  ·rw[if_pos h,if_pos h];rfl
  ·rw[if_neg h,if_neg h]
theorem KA:Sm 0:=by unfold Sm;decide +kernel
theorem mj (h:n<=10000):n<i0:=by rw[X6];lia
section
variable {P:j7}{w:u9}{K:m6}{mg:Str->Option b9}{base:Heap}{f:Addr}{fd:C5}{ec:Nat->Addr}{Bs:Addr}
noncomputable def ja (ec:Nat->Addr):Sp:=fun vs H Q E=>∃(v:V) (st:Addr) (d:A7),vs=[v]/\Dt st H d v/\dB d/\(cm 20 d=true->∀H',i8 H H'->Q .non H')/\(cm 20 d=false->∀H',i8 H H'->E (.ref (ec 0)) none H')
noncomputable abbrev kq:Stmt:=gI 28
theorem vH:D8 ["thing"] ["thing"] (w6 kq):=⟨rfl,rfl,rfl,by decide +kernel,rfl,by decide +kernel,by decide +kernel⟩
theorem vV (F:cH K "need_urn" "need_urn" kq f fd) (R:Bu K mg ec Bs) (c1:W5 P w K mg base 4 "is_urn" ["thing"] eQ):O5 P w K mg base (lN P w) 5 f fd ["thing"] (ja ec):=by
 refine F.okX vH (fun vs H Q E h=>?_) (fun cdv A outer s H vs Q E hr h=>?_)
 ·obtain ⟨v,st,d,rfl,_⟩:=h
  rfl
 obtain ⟨v,st,d,rfl,hd,hs,q1,q2⟩:=h
 refine ⟨_,t6 (T9 (bo (Z0 (B4 c1 hr rfl (b8 (pv 0) f6)))) (t6 (mz R.e0 (R.xc 0 (by decide)) mC (fun σ H Q Q' m q=>m _ _ q))) J7),?_⟩
 refine ⟨_,rfl,v,st,d,rfl,hd,hs,fun H1 g1=>⟨_,rfl,?_⟩⟩
 cases hw:cm 20 d with
 | true=>exact W0 (q1 hw H1 g1)
 | false=>exact V4 (q2 hw H1 g1)
noncomputable def gT (ec:Nat->Addr):Sp:=fun vs H Q E=>∃(v:V) (st:Addr) (d:A7) (k:Int),vs=[.int k,v]/\1<=k/\k<=4/\Dt st H d v/\zl d/\(bQ k d=true->∀H',i8 H H'->Q .non H')/\(bQ k d=false->∀H',i8 H H'->E (.ref (ec 1)) none H')
noncomputable abbrev jf:Stmt:=gI 29
theorem tP:D8 ["kinds","thing"] ["kinds","thing"] (w6 jf):=⟨rfl,rfl,rfl,by decide +kernel,rfl,by decide +kernel,by decide +kernel⟩
theorem uj (F:cH K "need_rule" "need_rule" jf f fd) (R:Bu K mg ec Bs) (c1:iq P w K mg base 3 "is_rule" ["kinds","thing"] (km ec)):O5 P w K mg base (lN P w) 4 f fd ["kinds","thing"] (gT ec):=by
 refine F.okX tP (fun vs H Q E h=>?_) (fun cdv A outer s H vs Q E hr h=>?_)
 ·obtain ⟨v,st,d,k,rfl,_⟩:=h
  rfl
 obtain ⟨v,st,d,k,rfl,k1,k4,hd,ok,q1,q2⟩:=h
 refine ⟨_,t6 (T9 (bo (Z0 (dh c1 hr rfl jB (b8 (pv 0) (b8 (pv 1) f6))))) (t6 (mz R.e1 (R.xc 1 (by decide)) (zg (ud (xY (pv 0) (ud CY)))) (fun σ H Q Q' m q=>?_))) J7),?_⟩
 ·obtain ⟨v1,z1,i1,z2,z3,z4,z5⟩:=q
  exact ⟨v1,z1,i1,z2,z3,z4,fun z=>m _ _ (z5 z)⟩
 refine ⟨_,rfl,_,rfl,.int k,v,st,.int k,d,rfl,Dt.int _ _ _,(fun hw=>?_),fun k' e _ _=>?_⟩
 ·have hw':(decide ((1:Int)<=k)&&decide (k<=4))=false:=hw
  rw[decide_eq_true k1,decide_eq_true k4] at hw'
  cases hw'
 cases e
 refine ⟨hd,ok.1,ok.2,fun H1 g1=>⟨_,rfl,?_⟩⟩
 cases hw:bQ k d with
 | true=>exact W0 (q1 hw H1 g1)
 | false=>exact V4 ⟨_,rfl,k,rfl,(Ky k1 k4).1,(Ky k1 k4).2,fun z=>q2 hw H1 g1⟩
noncomputable def xK (ec:Nat->Addr):Sp:=fun vs H Q E=>∃(u v:V) (st:Addr) (d e:A7),vs=[u,v]/\Dt st H d u/\dB d/\Dt st H e v/\zl e/\(cm 20 d=false->∀H',i8 H H'->E (.ref (ec 0)) none H') /\
 (cm 20 d=true->bQ (bt d) e=false->∀H',i8 H H'->E (.ref (ec 1)) none H')/\(cm 20 d=true->bQ (bt d) e=true->∀H',i8 H H'->Q .non H')
noncomputable abbrev CN:Stmt:=gI 30
theorem Ig:D8 ["urn","rule"] ["urn","rule"] (w6 CN):=⟨rfl,rfl,rfl,by decide +kernel,rfl,by decide +kernel,by decide +kernel⟩
theorem IL (F:cH K "need_urn_and_rule" "need_urn_and_rule" CN f fd) (B:Bt mg) (c1:iq P w K mg base 5 "need_urn" ["thing"] (ja ec)) (c2:iq P w K mg base 4 "need_rule" ["kinds","thing"] (gT ec)):O5 P w K mg base (lN P w) 6 f fd ["urn","rule"] (xK ec):=by
 refine F.okX Ig (fun vs H Q E h=>?_) (fun cdv A outer s H vs Q E hr h=>?_)
 ·obtain ⟨u,v,st,d,e,rfl,_⟩:=h
  rfl
 obtain ⟨u,v,st,d,e,rfl,hu,hus,hv,hvo,q0,q1,q2⟩:=h
 refine ⟨_,m7 (jz (dh c1 hr rfl jB (b8 (pv 0) f6))) (t6 (jz (dh (c2.up (by decide)) hr rfl jB (b8 (n9 D6 rfl B.len C4 (b8 (pv 0) f6)) (b8 (pv 1) f6))))),?_⟩
 refine ⟨_,rfl,u,st,d,rfl,hu,hus,fun hw H1 g1=>?_,q0⟩
 obtain ⟨ns,e1,l1,l4,_⟩:=mf hw
 subst e1
 obtain ⟨a,e2,_,ha⟩:=hu.di
 subst e2
 have q1':=q1 hw
 have q2':=q2 hw
 rw[cA] at q1' q2'
 refine ⟨_,rfl,a,_,rfl,.inr (.of (g1 _ _ ha)),_,rfl,v,st,e,(ns.length:Int),?_,by lia,by lia,hv.kp (g1.kp st),hvo,fun hr2 H2 g2=>q2' hr2 H2 (g1.trans g2),fun hr2 H2 g2=>q1' hr2 H2 (g1.trans g2)⟩
 rw[d8]
noncomputable def CA:Sp:=fun vs H Q _=>∃x y:Int,vs=[.int x,.int y]/\0<=x/\0<=y/\Q (.int (U8 x y:Nat)) H
noncomputable abbrev Ij:Stmt:=gI 17
theorem GF:D8 ["one","other"] ["one","other"] (w6 Ij):=⟨rfl,rfl,rfl,by decide +kernel,rfl,by decide +kernel,by decide +kernel⟩
theorem Le (F:cH K "greatest_divisor" "greatest_divisor" Ij f fd) (B:Bt mg):O5 P w K mg base dQ 1 f fd ["one","other"] CA:=by
 refine F.ok GF (fun vs H Q E h=>?_) (fun cdv A outer s H vs Q E hr h=>?_)
 ·obtain ⟨x,y,rfl,_⟩:=h
  rfl
 obtain ⟨x,y,rfl,hx,hy,q⟩:=h
 refine ⟨_,m7 (vO K3 (P0 gq (pv 1) i9 (N6 _)) (t6 (qe (i:=0) (j:=1) rfl GF.nd rfl rfl (by decide) rfl rfl (b8 (pv 1) (b8 (B7 ic (pv 0) (pv 1)) f6)) rfl)))
  (t6 (C6 (n9 wL rfl B.abs boot_abs (b8 (pv 0) f6)))),?_⟩
 refine ⟨fun m σ H2=>H2=H/\∃x' y':Int,0<=x'/\0<=y'/\σ=[some (.int x'),some (.int y')]/\m=y'.toNat/\U8 x' y'=U8 x y,⟨_,rfl,x,y,hx,hy,rfl,rfl,rfl⟩,?_⟩
 rintro m σ H2 ⟨rfl,x',y',h1,h2,rfl,rfl,e⟩
 refine ⟨_,rfl,rfl,_,rfl,?_⟩
 by_cases hz:y'=0
 ·subst hz
  rw[decide_eq_true rfl]
  refine W0 ⟨_,rfl,x',rfl,?_⟩
  have e2:(if x'<0 then -x' else x')=((U8 x y:Nat):Int):=by
   rw[<- e,Fj]
   split <;> lia
  rw[e2];exact q
 ·rw[decide_eq_false (show ¬ V.int y'=V.int 0 from fun z=>hz (by injection z))]
  refine V4 ⟨fun σ' H'=>H'=H2/\∃a b:Int,0<=a/\0<=b/\σ'=[some (.int a),some (.int b)]/\b.toNat<y'.toNat/\U8 a b=U8 x y,?_,?_⟩
  ·rintro σ' H' ⟨rfl,a,b,ha,hb,rfl,hlt,e2⟩
   exact ⟨_,hlt,rfl,a,b,ha,hb,rfl,rfl,e2⟩
  ·have hm:=cF x' (show y'≠0 from hz)
   have hm2:=aF x' (show 0<y' by lia)
   refine ⟨_,rfl,_,rfl,_,rfl,_,_,rfl,rfl,(by lia),_,_,rfl,?_⟩
   exact ⟨rfl,y',x' % y',h2,hm,rfl,by lia,by rw[wk h1 (by lia)];exact e⟩
noncomputable def dA:Sp:=fun vs H Q _=>∃t b:Int,vs=[.int t,.int b]/\0<=t/\0<b/\b.natAbs.log2<9000/\∀p H',i8 H H'->H' p=some (.tup ((fr (cut t b)).map V.int))->Q (.ref p) H'
noncomputable abbrev ky:Stmt:=gI 18
theorem nv:D8 ["top","bottom","divisor"] ["top","bottom"] (w6 ky):=⟨rfl,rfl,rfl,by decide +kernel,rfl,by decide +kernel,by decide +kernel⟩
theorem zH {t b:Int} (hb:0<b) (h:b.natAbs.log2<9000):0<((U8 t b:Nat):Int)/\((U8 t b:Nat):Int).natAbs.log2<9000:=by
 have h0:0<U8 t b:=Int.gcd_pos_of_ne_zero_right _ (by lia)
 refine ⟨by lia,?_⟩
 rw[Q4]
 have l:U8 t b<=b.natAbs:=Nat.le_of_dvd (by lia) (Nat.gcd_dvd_right _ _)
 rw[fb (by lia)] at h ⊢
 lia
theorem vY (F:cH K "fraction" "fraction" ky f fd) (c1:W5 P w K mg base 1 "greatest_divisor" ["one","other"] CA):O5 P w K mg base dQ 2 f fd ["top","bottom"] dA:=by
 refine F.ok nv (fun vs H Q E h=>?_) (fun cdv A outer s H vs Q E hr h=>?_)
 ·obtain ⟨x,y,rfl,_⟩:=h
  rfl
 obtain ⟨t,b,rfl,ht,hb,hlog,q⟩:=h
 refine ⟨_,m7 (F8 (i:=2) nv.nd rfl (A5 rfl) (B4 c1 hr rfl (b8 (pv 0) (b8 (pv 1) f6))))
  (t6 (C6 (C7 (b8 (B7 lj (pv 0) (pv 2)) (b8 (B7 lj (pv 1) (pv 2)) f6))))),?_⟩
 have g:=zH (t:=t) hb hlog
 refine ⟨_,rfl,_,rfl,t,b,rfl,ht,by lia,?_⟩
 refine ⟨_,rfl,_,rfl,_,_,rfl,rfl,g,_,rfl,_,rfl,_,_,rfl,rfl,g,(by show 2<=i0;decide),fun p hp=>?_⟩
 refine q p _ (i8.new hp) ?_
 rw[f9,DZ hb];rfl
noncomputable def gh:Sp:=fun vs H Q _=>∃(p q:Addr) (x y:Rat) (n m:Nat),vs=[.ref p,.ref q]/\H p=some (.tup ((fr x).map V.int))/\H q=some (.tup ((fr y).map V.int))/\0<=x.num/\0<=y.num/\Bd n x/\Bd m y/\n+m<=8000 /\
 ∀r H',i8 H H'->H' r=some (.tup ((fr (x*y)).map V.int))->Q (.ref r) H'
noncomputable abbrev tT:Stmt:=gI 20
theorem CI:D8 ["one","other"] ["one","other"] (w6 tT):=⟨rfl,rfl,rfl,by decide +kernel,rfl,by decide +kernel,by decide +kernel⟩
theorem Ds (F:cH K "times" "times" tT f fd) (c1:W5 P w K mg base 2 "fraction" ["top","bottom"] dA):O5 P w K mg base dQ 3 f fd ["one","other"] gh:=by
 refine F.ok CI (fun vs H Q E h=>?_) (fun cdv A outer s H vs Q E hr h=>?_)
 ·obtain ⟨p,q,x,y,n,m,rfl,_⟩:=h
  rfl
 obtain ⟨p,q,x,y,n,m,rfl,hp,hq,x0,y0,bx,by',hnm,k⟩:=h
 refine ⟨_,t6 (C6 (B4 c1 hr rfl (b8 (B7 dj (M7 R5 (pv 0) i9 (fun _ _=>rfl)) (M7 R5 (pv 1) i9 (fun _ _=>rfl))) (b8 (B7 dj (M7 R5 (pv 0) i9 (fun _ _=>rfl)) (M7 R5 (pv 1) i9 (fun _ _=>rfl))) f6)))),?_⟩
 have hp':H p=some (.tup [.int x.num,.int x.den]):=hp
 have hq':H q=some (.tup [.int y.num,.int y.den]):=hq
 have b1:A6 x.num<=2 ^ 20:=Y7 bx.num (by lia)
 have b2:A6 y.num<=2 ^ 20:=Y7 by'.num (by lia)
 have b3:A6 (x.den:Int)<=2 ^ 20:=Y7 (by rw[Q4];exact bx.den) (by lia)
 have b4:A6 (y.den:Int)<=2 ^ 20:=Y7 (by rw[Q4];exact by'.den) (by lia)
 refine ⟨_,rfl,p,_,_,_,rfl,rfl,.of hp',D7 (j:=0) rfl,_,rfl,q,_,_,_,rfl,rfl,.of hq',D7 (j:=0) rfl,_,_,rfl,rfl,⟨b1,b2⟩,
  _,rfl,p,_,_,_,rfl,rfl,.of hp',D7 (j:=1) rfl,_,rfl,q,_,_,_,rfl,rfl,.of hq',D7 (j:=1) rfl,_,_,rfl,rfl,⟨b3,b4⟩,_,_,rfl,dw x0 y0,?_,?_,?_⟩
 ·have h1:=x.den_nz;have h2:=y.den_nz
  have:=iw (U0 h1) (U0 h2)
  rw[<- cE];lia
 ·rw[fb (by have h1:=x.den_nz;have h2:=y.den_nz;rw[ag];exact cD (by lia) (by lia)),ag]
  refine B8 (E4 bx.den by'.den) ?_
  rw[<- Q7]
  exact Y8 (by decide) (by lia)
 ·rw[zQ];exact k
noncomputable def gS:Sp:=fun vs H Q _=>∃(p q:Addr) (x y:Rat) (n m:Nat),vs=[.ref p,.ref q]/\H p=some (.tup ((fr x).map V.int))/\H q=some (.tup ((fr y).map V.int))/\0<=x.num/\0<=y.num/\Bd n x/\Bd m y/\n+m<=8000 /\
 ∀r H',i8 H H'->H' r=some (.tup ((fr (x+y)).map V.int))->Q (.ref r) H'
noncomputable abbrev xU:Stmt:=gI 19
theorem Fu:D8 ["one","other"] ["one","other"] (w6 xU):=⟨rfl,rfl,rfl,by decide +kernel,rfl,by decide +kernel,by decide +kernel⟩
theorem FN (F:cH K "plus" "plus" xU f fd) (c1:W5 P w K mg base 2 "fraction" ["top","bottom"] dA):O5 P w K mg base dQ 3 f fd ["one","other"] gS:=by
 refine F.ok Fu (fun vs H Q E h=>?_) (fun cdv A outer s H vs Q E hr h=>?_)
 ·obtain ⟨p,q,x,y,n,m,rfl,_⟩:=h
  rfl
 obtain ⟨p,q,x,y,n,m,rfl,hp,hq,x0,y0,bx,by',hnm,k⟩:=h
 refine ⟨_,t6 (C6 (B4 c1 hr rfl (b8 (B7 X8 (B7 dj (M7 R5 (pv 0) i9 (fun _ _=>rfl)) (M7 R5 (pv 1) i9 (fun _ _=>rfl))) (B7 dj (M7 R5 (pv 1) i9 (fun _ _=>rfl)) (M7 R5 (pv 0) i9 (fun _ _=>rfl)))) (b8 (B7 dj (M7 R5 (pv 0) i9 (fun _ _=>rfl)) (M7 R5 (pv 1) i9 (fun _ _=>rfl))) f6)))),?_⟩
 have hp':H p=some (.tup [.int x.num,.int x.den]):=hp
 have hq':H q=some (.tup [.int y.num,.int y.den]):=hq
 have b1:A6 x.num<=2 ^ 20:=Y7 bx.num (by lia)
 have b2:A6 y.num<=2 ^ 20:=Y7 by'.num (by lia)
 have b3:A6 (x.den:Int)<=2 ^ 20:=Y7 (by rw[Q4];exact bx.den) (by lia)
 have b4:A6 (y.den:Int)<=2 ^ 20:=Y7 (by rw[Q4];exact by'.den) (by lia)
 refine ⟨_,rfl,p,_,_,_,rfl,rfl,.of hp',D7 (j:=0) rfl,_,rfl,q,_,_,_,rfl,rfl,.of hq',D7 (j:=1) rfl,_,_,rfl,rfl,⟨b1,b4⟩,
  _,rfl,q,_,_,_,rfl,rfl,.of hq',D7 (j:=0) rfl,_,rfl,p,_,_,_,rfl,rfl,.of hp',D7 (j:=1) rfl,_,_,rfl,rfl,⟨b2,b3⟩,_,_,rfl,rfl,
  _,rfl,p,_,_,_,rfl,rfl,.of hp',D7 (j:=1) rfl,_,rfl,q,_,_,_,rfl,rfl,.of hq',D7 (j:=1) rfl,_,_,rfl,rfl,⟨b3,b4⟩,_,_,rfl,?_,?_,?_,?_⟩
 ·exact Kg (dw x0 (by lia)) (dw y0 (by lia))
 ·have h1:=x.den_nz;have h2:=y.den_nz
  have:=iw (U0 h1) (U0 h2)
  rw[<- cE];lia
 ·rw[fb (by have h1:=x.den_nz;have h2:=y.den_nz;rw[ag];exact cD (by lia) (by lia)),ag]
  refine B8 (E4 bx.den by'.den) ?_
  rw[<- Q7]
  exact Y8 (by decide) (by lia)
 ·rw[zS];exact k
noncomputable def mh:Sp:=fun vs H Q _=>∃(a st:Addr) (v:V) (n j:Nat) (ns:List Int) (rs:List (List Int)) (k:Nat),vs=[.ref a,v,.int k]/\H a=some (.tup (ns.map V.int))/\ns.length=n/\Dt st H (DR rs) v/\Mt.kF n j rs/\n<=4/\k<n /\
 ∀p H',i8 H H'->H' p=some (.tup ((bP ns (rs.getD k [])).map V.int))->Q (.ref p) H'
noncomputable abbrev pT:Stmt:=gI 31
theorem Az:D8 ["urn","rule","kind"] ["urn","rule","kind"] (w6 pT):=⟨rfl,rfl,rfl,by decide +kernel,rfl,by decide +kernel,by decide +kernel⟩
theorem AH (F:cH K "put_in" "put_in" pT f fd) (B:Bt mg):O5 P w K mg base dQ 1 f fd ["urn","rule","kind"] mh:=by
 refine F.ok Az (fun vs H Q E h=>?_) (fun cdv A outer s H vs Q E hr h=>?_)
 ·obtain ⟨a,st,v,n,j,ns,rs,k,rfl,_⟩:=h
  rfl
 obtain ⟨a,st,v,n,j,ns,rs,k,rfl,ha,hn,hd,hru,h4,hk,q⟩:=h
 refine ⟨_,t6 (C6 (N5 Q6 rfl B.tuple E7 (b8 (O7 (N:=["balls","more"]) (ix:=[none,none]) (ifs:=[]) (tc:=X4) rfl
   (xZ rfl B.zip (b8 (pv 0) (b8 (M7 R5 (pv 1) (pv 2) (fun _ _=>rfl)) f6)))
   (fun s H ex=>AE (K:=K) (n:=2) rfl rfl (M6 (cx (i:=0) (by decide +kernel) rfl (A5 rfl) (.inr rfl)) (M6 (cx (i:=1) (by decide +kernel) rfl (A5 rfl) (.inr rfl)) cw))) (fun s H ex=>O1)
   (fun s H ex=>B7 X8 (pv 0) (pv 1)) rfl (by decide +kernel) (by rfl) (by rfl) (fun _=>rfl)) f6))),?_⟩
 obtain ⟨r,xs,b,e,hr2,hx,hb⟩:=Eg hd (by rw[hru.len];exact hk)
 subst e
 have hrow:=hru.at hk
 generalize hrw:rs.getD k []=row at *
 refine ⟨_,rfl,_,rfl,_,rfl,r,_,_,_,rfl,rfl,.of hr2,D7 hx,a,b,_,_,rfl,.of ha,.of hb,?_⟩
 have l1:ns.length=row.length:=by rw[hn,hrow.len]
 refine oO (K:=K) (a:=a) (b:=b) (xs:=ns.map V.int) (ys:=row.map V.int) (sz (by rw[d8];lia)) (by rw[d8,d8];exact l1)
  (fun i zs H2=>i8 H H2/\i<=n/\zs=((bP ns row).take i).map V.int) ⟨i8.refl H,v8 _,rfl⟩ (fun i zs H2 h=>?_) (fun i zs H2 _ h=>⟨.of (h.1 _ _ ha),.of (h.1 _ _ hb)⟩) ⟨rfl,rfl⟩ (fun i zs H2 x y p hx hy hp h=>?_) (fun zs H2 h=>?_)
 ·obtain ⟨_,hil,rfl⟩:=h
  have:(bP ns row).length=n:=by unfold bP;rw[fG,<- l1,hn];lia
  rw[d8,v7,this];lia
 ·obtain ⟨hS,hil,rfl⟩:=h
  have hi:i<ns.length:=by have:=(List.getElem?_eq_some_iff.mp hx).1;rwa [d8] at this
  have hi2:i<row.length:=by lia
  rw[w5,f7 hi] at hx
  rw[w5,f7 hi2] at hy
  cases hx
  cases hy
  refine ⟨_,rfl,_,rfl,_,_,rfl,rfl,hS.trans (i8.new hp),by lia,?_⟩
  have e:(bP ns row)[i]?=some (ns[i]+row[i]):=by
   unfold bP;rw[jS,f7 hi,f7 hi2]
  rw[E3,e,B0];rfl
 ·obtain ⟨hS,hil,rfl⟩:=h
  intro p hp
  refine ⟨p,_,rfl,.inl ⟨.of f9,fun l hl=>?_⟩⟩
  refine q l _ ((hS.trans (i8.new hp)).trans (i8.new hl)) ?_
  rw[f9,d8]
  have:(bP ns row).length=ns.length:=by unfold bP;rw[fG,<- l1];lia
  rw[<- this,E2]
noncomputable def kl:Sp:=fun vs H Q _=>∃(a:Addr) (xs:List V),vs=[.ref a]/\H a=some (.tup xs)/\∀p H',i8 H H'->H' p=some (.tup xs)->Q (.ref p) H'
noncomputable abbrev mn:Stmt:=gI 32
theorem xN:D8 ["urn"] ["urn"] (w6 mn):=⟨rfl,rfl,rfl,by decide +kernel,rfl,by decide +kernel,by decide +kernel⟩
theorem yg (F:cH K "own_urn" "own_urn" mn f fd) (B:Bt mg):O5 P w K mg base dQ 1 f fd ["urn"] kl:=by
 refine F.ok xN (fun vs H Q E h=>?_) (fun cdv A outer s H vs Q E hr h=>?_)
 ·obtain ⟨a,xs,rfl,_⟩:=h
  rfl
 obtain ⟨a,xs,rfl,ha,q⟩:=h
 refine ⟨_,t6 (C6 (N5 Q6 rfl B.tuple E7 (b8 (N5 eK rfl B.list Z3 (b8 (pv 0) f6)) f6))),?_⟩
 refine ⟨_,rfl,a,_,rfl,.inr (.of ha),fun l hl=>⟨l,_,rfl,.inl ⟨.of f9,fun p hp=>?_⟩⟩⟩
 exact q p _ ((i8.new hl).trans (i8.new hp)) f9
noncomputable def xG:Sp:=fun vs H Q _=>∃(a st:Addr) (v:V) (n:Nat) (ns:List Int) (rs:List (List Int)),vs=[.ref a,v]/\H a=some (.tup (ns.map V.int))/\ns.length=n/\Dt st H (DR rs) v/\Mt.kF n 5 rs/\n<=4 /\
 ∀p H' ts,i8 H H'->H' p=some (.lst ts)->cM H' (pj rs ns) ts->Q (.ref p) H'
noncomputable abbrev CL:Stmt:=gI 35
theorem Ie:D8 ["urn","rule"] ["urn","rule"] (w6 CL):=⟨rfl,rfl,rfl,by decide +kernel,rfl,by decide +kernel,by decide +kernel⟩
theorem IJ (F:cH K "urns_behind_one" "urns_behind_one" CL f fd) (B3:Mf mg) (c1:W5 P w K mg base 1 "put_in" ["urn","rule","kind"] mh):O5 P w K mg base dQ 2 f fd ["urn","rule"] xG:=by
 refine F.ok Ie (fun vs H Q E h=>?_) (fun cdv A outer s H vs Q E hr h=>?_)
 ·obtain ⟨a,st,v,n,ns,rs,rfl,_⟩:=h
  rfl
 obtain ⟨a,st,v,n,ns,rs,rfl,ha,hn,hv,hR,n4,q⟩:=h
 refine ⟨_,t6 (C6 (O7 (N:=["kind","balls","urn","rule"]) (ix:=[none,none,some 0,some 1]) rfl
   (Df rfl B3.enumerate (b8 (pv 0) f6))
   (fun s H ex=>AE (K:=K) (n:=2) rfl rfl (M6 (cx (i:=0) (by decide +kernel) rfl (A5 rfl) (.inr rfl)) (M6 (cx (i:=1) (by decide +kernel) rfl (A5 rfl) (.inr rfl)) cw)))
   (fun s H ex=>CZ (P0 zi (pv 1) i9 (N6 _)))
   (fun s H ex=>C7 (b8 (pv 1) (b8 (B4 c1 hr rfl (b8 (pv 2) (b8 (pv 3) (b8 (pv 0) f6)))) f6))) rfl (by decide +kernel) (by rfl) (by rfl) (fun _=>rfl))),?_⟩
 refine ⟨_,rfl,a,_,rfl,.of ha,?_⟩
 refine Es (K:=K) (a:=a) (xs:=ns.map V.int) (sz (by rw[d8];lia)) (fun i ys H2=>i8 H H2/\i<=n/\cM H2 (eE rs ns 0 (ns.take i)) ys) ⟨i8.refl H,v8 _,rfl⟩ (fun i ys H2 h=>?_) (fun i ys H2 _ h=>.of (h.1 _ _ ha)) ⟨rfl,rfl⟩ (fun i ys H2 x p hx hp h=>?_) (fun ys H2 h=>?_)
 ·obtain ⟨_,_,h2⟩:=h
  rw[h2.len]
  have:=qD (rs:=rs) (u:=ns) (ns.take i) 0
  rw[v7] at this
  lia
 ·obtain ⟨g2,hi,h2⟩:=h
  rw[w5] at hx
  obtain ⟨b,hb,eb⟩:=Option.map_eq_some_iff.mp hx
  subst eb
  have hil:=(List.getElem?_eq_some_iff.mp hb).1
  have g3:=g2.trans (i8.new hp (o:=.tup [.int i,.int b]))
  have h3:=h2.mono (fun a xs e=>i8.new (o:=.tup [.int i,.int b]) hp _ _ e)
  generalize n8 H2 p (.tup [.int i,.int b])=H3 at g3 h3
  have et:eE rs ns 0 (ns.take (i+1))=eE rs ns 0 (ns.take i)++(if 0<b then [(b,bP ns (rs.getD i []))] else []):=by
   rw[E3,hb]
   show eE rs ns 0 (ns.take i++[b])=_
   rw[sg,v7,K5,jR (by lia)]
  refine ⟨_,rfl,_,_,rfl,rfl,_,rfl,?_⟩
  by_cases hb0:0<b
  ·rw[if_pos hb0] at et
   rw[decide_eq_true (show b > 0 from hb0),if_pos rfl]
   refine ⟨_,rfl,_,rfl,_,rfl,_,rfl,a,st,v,n,5,ns,rs,i,rfl,g3 _ _ ha,hn,hv.kp (g3.kp st),hR,n4,by lia,fun w H4 g4 hw=>⟨(by show 2<=i0;decide),fun q' hq'=>⟨(g3.trans g4).trans (i8.new hq'),by lia,?_⟩⟩⟩
   rw[et]
   refine cM.snoc (b:=(b,bP ns (rs.getD i []))) (w:=w) f9 ?_ (h3.mono fun a xs e=>(g4.trans (i8.new hq')) _ _ e)
   exact i8.new hq' _ _ hw
  ·rw[if_neg hb0,V5] at et
   rw[decide_eq_false (show ¬ b > 0 from hb0),if_neg t7]
   exact ⟨g3,by lia,by rw[et];exact h3⟩
 ·obtain ⟨g2,_,h2⟩:=h
  intro p hp
  rw[d8,E2] at h2
  exact q p _ ys (g2.trans (i8.new hp)) f9 (h2.mono fun a xs e=>i8.new hp _ _ e)
end
noncomputable def BQ (H:Hp):F0->List V->Prop
 | [],[]=>True
 | p::T,y::ys=>(∃r ka q,y=.ref r/\H r=some (.tup [.ref ka,.ref q])/\H ka=some (.tup (p.1.map V.int))/\H q=some (.tup ((fr p.2).map V.int)))/\BQ H T ys
 | _,_=>False
theorem BQ.same {H H':Hp} (g:i8 H H'):∀{T:F0}{ys:List V},BQ H T ys->BQ H' T ys
 | [],[],_=>trivial
 | _::_,_::_,h=>⟨let ⟨r,ka,q,e,a,b,c⟩:=h.1;⟨r,ka,q,e,g _ _ a,g _ _ b,g _ _ c⟩,BQ.same g h.2⟩
 | [],_::_,h=>h.elim
 | _::_,[],h=>h.elim
theorem BQ.len {H:Hp}:∀{T:F0}{ys:List V},BQ H T ys->ys.length=T.length
 | [],[],_=>rfl
 | _::_,_::_,h=>by rw[m9,m9,BQ.len h.2]
 | [],_::_,h=>h.elim
 | _::_,[],h=>h.elim
theorem BQ.get {H:Hp}:∀{T:F0}{ys:List V}{i:Nat}{y:V},BQ H T ys->ys[i]?=some y->∃p r ka q,T[i]?=some p/\y=.ref r/\H r=some (.tup [.ref ka,.ref q])/\H ka=some (.tup (p.1.map V.int))/\H q=some (.tup ((fr p.2).map V.int))
 | p::_,_::_,0,_,h,e=>by
  obtain ⟨r,ka,q,e1,a,b,c⟩:=h.1
  cases e
  exact ⟨p,r,ka,q,rfl,e1,a,b,c⟩
 | _::_,_::_,i+1,_,h,e=>BQ.get (i:=i) h.2 (by simpa using e)
 | [],[],_,_,_,e=>by simp at e
 | [],_::_,_,_,h,_=>h.elim
 | _::_,[],_,_,h,_=>h.elim
theorem BQ.of {H:Hp}:∀{T:F0}{kvs:List (List S6 × V)}{ys:List V},QE H T kvs->rm H kvs ys->BQ H T ys
 | [],[],[],_,_=>trivial
 | p::T,kv::kvs,y::ys,⟨a,⟨q,e,hq⟩,c⟩,h=>by
  obtain ⟨k,x⟩:=kv
  obtain ⟨r,ka,e1,h1,h2⟩:=h.1
  have a:k=kI p.1:=a
  have e:x=.ref q:=e
  subst a e
  rw[lC] at h2
  exact ⟨⟨r,ka,q,e1,h1,h2,hq⟩,BQ.of c h.2⟩
 | [],[],_::_,_,h=>h.elim
 | [],_::_,_,h,_=>h.elim
 | _::_,[],_,h,_=>h.elim
 | _::_,_::_,[],_,h=>h.elim
theorem cW {l:Addr}{H H':Hp}{o:HO} (hl:H l=some o) (ho:∀xs,o≠.tup xs) (k:Kp l H H'):∀a xs,H a=some (.tup xs)->H' a=some (.tup xs):=fun a xs e=>k a _ (fun z=>by rw[z,hl] at e;injection e with e;exact ho _ e) e
section
variable {P:j7}{w:u9}{K:m6}{mg:Str->Option b9}{base:Heap}{f:Addr}{fd:C5}{ec:Nat->Addr}{Bs:Addr}
noncomputable def pI:Sp:=fun vs H Q _=>∃(d st:Addr) (v:V) (n m N E:Nat) (T:F0) (kvs:List (List S6 × V)) (rs:List (List Int)),vs=[.ref d,v]/\H d=some (.dT kvs)/\QE H T kvs/\fx n m T/\m<=50/\T.length<=1024/\cY N E T/\0<N/\N<=2 ^ 1600/\E<=2 ^ 60/\Dt st H (DR rs) v/\Mt.kF n 5 rs/\n<=4 /\
 ∀p kvs' H',Kp d H H'->H p=none->H' p=some (.dT kvs')->QE H' (jX rs T) kvs'->Q (.ref p) H'
noncomputable abbrev tV:Stmt:=gI 36
theorem fk:D8 ["chances","rule","later","urn","so_far","balls","behind","part"] ["chances","rule"] (w6 tV):=⟨rfl,rfl,rfl,by decide +kernel,rfl,by decide +kernel,by decide +kernel⟩
theorem DA (F:cH K "next_chances" "next_chances" tV f fd) (B:Bt mg) (c1:W5 P w K mg base 2 "urns_behind_one" ["urn","rule"] xG) (c2:W5 P w K mg base 3 "times" ["one","other"] gh) (c3:W5 P w K mg base 2 "fraction" ["top","bottom"] dA) (c4:W5 P w K mg base 3 "plus" ["one","other"] gS):O5 P w K mg base dQ 4 f fd ["chances","rule"] pI:=by
 refine F.ok fk (fun vs H Q E h=>?_) (fun cdv A outer s H vs Q E hr h=>?_)
 ·obtain ⟨d,st,v,n,m,N,E,T,kvs,rs,rfl,_⟩:=h
  rfl
 obtain ⟨d,st,v,n,m,N,En,T,kvs,rs,rfl,hd,hQ,hK,hm,hT,hE,hN0,hN,hEn,hv,hR,n4,q⟩:=h
 refine ⟨_,m7 (F8 (i:=2) fk.nd rfl (A5 rfl) qi)
  (m7 (fq K3 rfl (qh (pv 0)) (mB rfl (M6 (W3 (i:=3) fk.nd rfl (A5 rfl)) (M6 (W3 (i:=4) fk.nd rfl (A5 rfl)) cw)))
   (t6 (fq K3 rfl (oD (B4 (c1.up (by decide)) hr rfl (b8 (pv 3) (b8 (pv 1) f6)))) (mB rfl (M6 (W3 (i:=5) fk.nd rfl (A5 rfl)) (M6 (W3 (i:=6) fk.nd rfl (A5 rfl)) cw)))
    (m7 (F8 (i:=7) fk.nd rfl (A5 rfl) (B4 c2 hr rfl (b8 (pv 4) (b8 (B4 (c3.up (by decide)) hr rfl (b8 (pv 5) (b8 (n9 (cC rfl) rfl B.sum Ah (b8 (pv 3) f6)) f6))) f6))))
    (t6 (tZ (lD hr) (pv 2) (pv 6) (B4 c4 hr rfl (b8 (qj (lD hr) (pv 2) (pv 6) (C7 (b8 i9 (b8 i9 f6))) ⟨rfl,rfl,rfl,rfl⟩) (b8 (pv 7) f6))) rfl))))))
  (t6 (C6 (pv 2)))),?_⟩
 have hv0:=uO hd hv
 have hpos:∀p∈T,(∀b∈p.1,0<=b)/\0<p.1.sum:=fun p hp=>⟨fun b hb=>((hK p hp).nn b hb).1,(hK p hp).pos⟩
 intro lt hlt
 have nlt:d≠lt:=v5 hd hlt
 have nfz:∀(o:Obj) (ps:List (List S6 × V)) xs,HO.frz o (.dT ps)≠.tup xs:=fun _ _ _ z=>by cases z
 have ndt:∀(ps:List (List S6 × V)) xs,HO.dT ps≠.tup xs:=fun _ _ z=>by cases z
 refine ⟨_,rfl,d,kvs,rfl,(by rw[A1 nlt];exact hd),fun o=>?_⟩
 have k0:Kp d H (n8 (n8 H lt (.dT [])) d (.frz o (.dT kvs))):=fun b u nb e=>by rw[A1 nb,A1 (v5 e hlt)];exact e
 refine mM (o:=o) (fun i σ H2=>Kp d H H2/\H2 d=some (.frz o (.dT kvs))/\(∃ks,H2 lt=some (.dT ks)/\QE H2 (R4 rs (T.take i) []) ks)/\i<=T.length/\∃o3 o4 o5 o6 o7,σ=[some (.ref d),some v,some (.ref lt),o3,o4,o5,o6,o7])
  ⟨k0,f9,⟨[],by rw[A1 nlt.symm,f9],trivial⟩,v8 _,none,none,none,none,none,rfl⟩ (fun i σ H2 _ h=>h.2.1) (fun i k x σ H2 p ka hx hp hka h=>?_) (fun σ H2 h=>?_)
 ·obtain ⟨k2,hd2,⟨ks2,hl2,hq2⟩,hi,o3,o4,o5,o6,o7,rfl⟩:=h
  obtain ⟨um,hum,ek,xq,ex,hxq⟩:=hQ.get hx
  subst ek ex
  obtain ⟨u,mm⟩:=um
  simp only at hka hxq
  have hil:=(List.getElem?_eq_some_iff.mp hum).1
  have hku:Mt.jP n m u:=hK (u,mm) (m8 hum)
  have hmm:Vq N En mm:=hE (u,mm) (m8 hum)
  rw[lC] at hka
  refine ⟨p,_,rfl,.of f9,rfl,_,_,rfl,_,_,rfl,rfl,?_⟩
  have g3:i8 H2 (n8 H2 p (.tup [.ref ka,.ref xq])):=i8.new hp
  show Ks _ _ _ _ _ (n8 H2 p (.tup [.ref ka,.ref xq]))
  generalize n8 H2 p (.tup [.ref ka,.ref xq])=H3 at g3
  have k3:Kp d H H3:=k2.trans (g3.kp d)
  refine ⟨_,rfl,_,rfl,ka,d,v,n,u,rs,rfl,g3 _ _ hka,hku.len,hv0.kp k3,hR,n4,fun pl H4 ts g4 hpl hts=>⟨pl,rfl,⟨_,.of hpl⟩,?_⟩⟩
  have k4:Kp d H H4:=k3.trans (g4.kp d)
  have hl4:=g4 _ _ (g3 _ _ hl2)
  have hd4:=g4 _ _ (g3 _ _ hd2)
  have hq4:QE H4 (R4 rs (T.take i) []) ks2:=hq2.mono fun a xs e=>g4 _ _ (g3 _ _ e)
  have hx4:H4 xq=some (.tup ((fr mm).map V.int)):=cW hd (ndt _) k4 _ _ hxq
  have hka4:H4 ka=some (.tup (u.map V.int)):=g4 _ _ (g3 _ _ hka)
  obtain ⟨kk1,kk2,kk3,kk4⟩:=mF (D:=[]) (B:=0) hR n4 hm (T.take i) (fun q hq=>hK q (C9 hq)) (fun q hq=>hE q (C9 hq)) (fun p hp=>by simp at hp) (by unfold fN;simp) (fun p hp=>by simp at hp)
  have hti:(T.take i).length<=1024:=by rw[v7];lia
  have hle:(R4 rs (T.take i) []).length<=4*1024:=j0 kk4 (by rw[O0,K5];exact E4 n4 hti)
  have hbs:(pj rs u).length<=4:=j0 (zr hku) n4
  have hs0:=hku.pos
  have hs1:=oz hku n4 hm
  refine wm (K:=K) (a:=pl) (xs:=ts) (fun j σ H5=>Kp lt H4 H5/\(∃ks,H5 lt=some (.dT ks)/\QE H5 (P4 mm u.sum ((pj rs u).take j) (R4 rs (T.take i) [])) ks)/\j<=ts.length/\∃o5 o6 o7,σ=[some (.ref d),some v,some (.ref lt),some (.ref ka),some (.ref xq),o5,o6,o7])
   ⟨Kp.refl _ _,⟨ks2,hl4,hq4⟩,v8 _,o5,o6,o7,rfl⟩ (fun j σ H5 _ h=>.of (h.1 _ _ (qx hpl hl4 (by intro z;cases z)) hpl)) (fun j t σ H5 ht h=>?_) (fun σ H5 h=>?_)
  ·obtain ⟨k5,⟨ks5,hl5,hq5⟩,hj,o5,o6,o7,rfl⟩:=h
   obtain ⟨b,q',w',hb,rfl,hq',hw'⟩:=hts.get ht
   have hjl:=(List.getElem?_eq_some_iff.mp ht).1
   have t45:=cW hl4 (ndt _) k5
   have hp5:=t45 _ _ hq'
   have hw5:=t45 _ _ hw'
   have hx5:=t45 _ _ hx4
   have hka5:=t45 _ _ hka4
   obtain ⟨bb,bu⟩:=qy hR hku (m8 hb)
   obtain ⟨pp1,pp2,pp3,pp4⟩:=pY (m:=m+5) hmm hs0 hs1 ((pj rs u).take j) (fun c hc=>qy hR hku (C9 hc)) kk1 kk2 kk3
   have hjt:((pj rs u).take j).length<=4:=by rw[v7];lia
   have hlen:(P4 mm u.sum ((pj rs u).take j) (R4 rs (T.take i) [])).length<=10000:=by lia
   have cv:Vq LL 1 (cut b.1 u.sum):=uH (by lia) bb.2 hs0 hs1
   have cb:Bd 12 (cut b.1 u.sum):=Bd.cut hs0 (by show _<=4096;lia) (by show _<=4096;lia)
   have pv':Vq (N*LL) En (mm*cut b.1 u.sum):=(hmm.mul cv).mono (by lia)
   have hNL:N*LL<=2 ^ 1900:=by
    have:(2:Nat) ^ 1900=2 ^ 1600*2 ^ 300:=by rw[<- Q7]
    rw[this];exact E4 hN Ey
   have hNL0:0<N*LL:=iw hN0 yM
   have big:∀X:Nat,X<=2 ^ 60*2 ^ 13->N*LL*X<=2 ^ 1973:=fun X hX=>by
    have:(2:Nat) ^ 1973=2 ^ 1900*(2 ^ 60*2 ^ 13):=by rw[<- Q7,<- Q7]
    rw[this];exact E4 hNL hX
   have hNL2:N*LL<=2 ^ 1973:=j0 hNL (B1 (by decide) (by decide))
   have d1:Bd 1660 mm:=hmm.bd hN0 (by
    have:(2:Nat) ^ 1660=2 ^ 1600*2 ^ 60:=by rw[<- Q7]
    rw[this];exact E4 hN hEn) (j0 hN (B1 (by decide) (by decide)))
   have d2:Bd 1973 (mm*cut b.1 u.sum):=pv'.bd hNL0 (big _ (j0 hEn (yQ _ (by decide)))) hNL2
   have vv:=pp3.val (k:=b.2)
   have d3:Bd 1973 (fh (P4 mm u.sum ((pj rs u).take j) (R4 rs (T.take i) [])) b.2):=vv.bd hNL0 (big _ (by
    have e1:0+En*(4*(T.take i).length)+En*((pj rs u).take j).length<=En*(2 ^ 13):=by
     rw[K5,<- V0];exact S1 _ (by lia)
    exact j0 e1 (BZ _ hEn))) hNL2
   refine ⟨q',_,rfl,.of hp5,rfl,_,_,rfl,_,_,rfl,rfl,?_⟩
   have hw5':H5 w'=some (.tup ((kI b.2).map kV)):=by rw[lC];exact hw5
   refine ⟨_,rfl,_,rfl,_,rfl,ka,u,rfl,.inr (.of hka5),b.1,u.sum,rfl,by lia,hs0,DP (n:=12) hs0 (by show _<=4096;lia) (by decide),fun p6 H6 g6 hp6=>?_⟩
   refine ⟨xq,p6,mm,cut b.1 u.sum,1660,12,rfl,g6 _ _ hx5,hp6,Rat.num_nonneg.mpr hmm.nn,Rat.num_nonneg.mpr cv.nn,d1,cb,by decide,fun p7 H7 g7 hp7=>?_⟩
   have g57:=g6.trans g7
   have hl7:=g57 _ _ hl5
   have hw7:=g57 _ _ hw5'
   refine ⟨_,rfl,lt,rfl,.inr ⟨_,.inl hl7⟩,_,rfl,(by show 2<=i0;decide),fun p8 hp8=>?_⟩
   have g8:i8 H7 (n8 H7 p8 (.tup [.int 0,.int 1])):=i8.new hp8
   have hz8:oi (n8 H7 p8 (.tup [.int 0,.int 1])) 0 (.ref p8):=⟨p8,rfl,f9⟩
   try dsimp -proj only
   generalize n8 H7 p8 (.tup [.int 0,.int 1])=H8 at g8 hz8
   have hl8:=g8 _ _ hl7
   have hw8:=g8 _ _ hw7
   have hq8:QE H8 (P4 mm u.sum ((pj rs u).take j) (R4 rs (T.take i) [])) ks5:=hq5.mono fun a xs e=>g8 _ _ (g57 _ _ e)
   obtain ⟨r8,er8,hr8⟩:=hq8.val (k:=b.2) hz8
   refine ⟨_,rW.t hl8 hw8,?_⟩
   rw[er8]
   refine ⟨_,rfl,r8,p7,_,mm*cut b.1 u.sum,1973,1973,rfl,hr8,g8 _ _ hp7,Rat.num_nonneg.mpr vv.nn,Rat.num_nonneg.mpr pv'.nn,d3,d2,by decide,fun p9 H9 g9 hp9=>?_⟩
   have g59:i8 H5 H9:=g57.trans (g8.trans g9)
   have hl9:=g9 _ _ hl8
   have hw9:=g9 _ _ hw8
   have hq9:QE H9 (P4 mm u.sum ((pj rs u).take j) (R4 rs (T.take i) [])) ks5:=hq8.mono fun a xs e=>g9 _ _ e
   refine ⟨_,rfl,_,rfl,lt,_,rfl,yO.t hl9 hw9 (by rw[hq9.len];exact mj hlen),?_⟩
   have hq10:=hq9.put (k:=b.2) (x:=mm*cut b.1 u.sum) (v:=.ref p9) pp2 ⟨p9,rfl,hp9⟩
   have k10:Kp lt H4 (n8 H9 lt (.dT (jL ks5 (kI b.2) (.ref p9)))):=(k5.trans (g59.kp lt)).trans Kp.at
   refine ⟨k10,⟨_,f9,?_⟩,hjl,_,_,_,rfl⟩
   rw[E3,hb]
   show QE _ (P4 mm u.sum ((pj rs u).take j++[b]) _) _
   rw[kA]
   exact hq10.mono (cW hl9 (ndt _) Kp.at)
  ·obtain ⟨k5,⟨ks5,hl5,hq5⟩,_,o5,o6,o7,rfl⟩:=h
   have hlt2:H lt=none:=hlt
   refine ⟨fun c o nc e=>k5 _ _ (v5 e hlt2) (k4 _ _ nc e),k5 _ _ nlt hd4,⟨ks5,hl5,?_⟩,hil,_,_,_,_,_,rfl⟩
   rw[E3,hum]
   show QE H5 (R4 rs (T.take i++[(u,mm)]) []) ks5
   rw[nD]
   rw[hts.len,E2] at hq5
   exact hq5
 ·obtain ⟨k2,hd2,⟨ks2,hl2,hq2⟩,_,o3,o4,o5,o6,o7,rfl⟩:=h
  rw[hQ.len,E2] at hq2
  exact ⟨_,rfl,q lt ks2 H2 k2 hlt hl2 hq2⟩
end
end G
set_option maxHeartbeats 1000000
namespace So
open PySem PyProof.Rows
noncomputable def oI:Bool->n6->Array n6->Nat->Nat->Nat->StateT G9 Sem (Option Nat):=sortPriv% PySem.Builtin.gallop
section
variable {prog:j7}{w:u9}{A:A8}{E:b9->d9->Prop}{s:d9}{rk:n6->Int}{M:n6->Prop}{κ:dZ}
noncomputable def xt (prog:j7) (w:u9) (A:A8) (s:d9) (rk:n6->Int) (M:n6->Prop) (κ:dZ):Prop:=∀x y:n6,M x->M y->∀Q:Bool->d9->Prop,Q (decide (rk x<rk y)) s->j6 (r6 prog w) A (keyLt' κ x.1 y.1) Q (fun _ _=>False) s
variable {x:n6}
theorem oY {y:n6}{st:G9}{Q:Option Bool->G9->Prop} (hA:xt prog w A s rk M κ) (hk:kindOf st=κ) (hx:M x) (hy:M y) (h:Q (some (decide (rk x<rk y))) st):wpS (r6 prog w) A E s (lt' x y) Q st:=by
 rw[lt'_eq]
 refine i7 (Y4 ?_)
 rw[hk]
 refine i7 (fO (Q2 (F5 (hA x y hx hy (fun b s'=>s'=s/\b=decide (rk x<rk y)) ⟨rfl,rfl⟩) (fun b s' hb=>⟨hb.1,?_⟩) fun _ _ z=>z.elim)))
 obtain ⟨_,rfl⟩:=hb
 exact j8 h
variable {arr:Array n6}
theorem M5 {i:Nat}{st:G9}{Q:n6->G9->Prop} (h:arr[i]?=some x) (q:Q x st):wpS (r6 prog w) A E s (elem' arr i) Q st:=by
 rw[elem'_eq,h]
 exact j8 q
noncomputable def bq (rk:n6->Int) (left:Bool) (key x:n6):Bool:=if left=true then decide (rk x<rk key) else !decide (rk key<rk x)
theorem Jn {left:Bool}{key:n6}{i:Nat}{st:G9}{Q:Option Bool->G9->Prop} (hA:xt prog w A s rk M κ) (hk:kindOf st=κ) (hx:arr[i]?=some x) (mx:M x) (mk:M key) (h:Q (some (bq rk left key x)) st):
  wpS (r6 prog w) A E s (do let x <- elem' arr i;if left=true then lt' x key else do let r <- lt' key x;pure (BA (fun x=>!x) r)) Q st:=by
 refine i7 (M5 hx ?_)
 unfold bq at h
 cases left with
 | true =>
  rw[if_pos rfl] at h ⊢
  exact oY hA hk mx mk h
 | false =>
  rw[if_neg (by decide)] at h ⊢
  exact i7 (oY hA hk mk mx (j8 h))
theorem wO {n lo hi:Nat}{st:G9}{f:Nat->Option (Option Nat) × Nat × Nat->StateT G9 Sem (ForInStep (Option (Option Nat) × Nat × Nat))}{P:Nat->Bool}{Q:Option (Option Nat) × Nat × Nat->G9->Prop}
  (hstep:∀(x lo hi:Nat) (R:ForInStep (Option (Option Nat) × Nat × Nat)->G9->Prop),hi<=n->(lo ≥ hi->R (.done (none,lo,hi)) st)->(lo<hi->P (lo+(hi - lo) / 2)=true->R (.yield (none,lo+(hi - lo) / 2+1,hi)) st)->(lo<hi->P (lo+(hi - lo) / 2)=false->R (.yield (none,lo,lo+(hi - lo) / 2)) st)->wpS (r6 prog w) A E s (f x (none,lo,hi)) R st)
  (hP:∀i j,i<=j->j<n->P j=true->P i=true) (h1:lo<=hi) (h2:hi<=n) (h3:∀i,i<lo->P i=true) (h4:∀i,hi<=i->i<n->P i=false)
  (h:∀k,k<=n->(∀i,i<k->P i=true)->(∀i,k<=i->i<n->P i=false)->Q (none,k,k) st):
  wpS (r6 prog w) A E s (forIn [0:n] (none,lo,hi) f) Q st:=by
 refine G5 (I:=fun x c st'=>st'=st/\∃lo hi,c=(none,lo,hi)/\lo<=hi/\hi<=n/\hi - lo<=n - x/\(∀i,i<lo->P i=true)/\(∀i,hi<=i->i<n->P i=false)) ?_ ?_ ⟨rfl,lo,hi,rfl,h1,h2,by lia,h3,h4⟩
 ·rintro x c st' _ hx ⟨rfl,lo,hi,rfl,a1,a2,a3,a4,a5⟩
  refine hstep x lo hi _ a2 (fun hge=>?_) (fun hlt hp=>?_) (fun hlt hp=>?_)
  ·have e:lo=hi:=by lia
   subst e
   exact h lo a2 a4 a5
  ·refine ⟨rfl,_,_,rfl,by lia,a2,by lia,fun i hi'=>?_,a5⟩
   exact hP i _ (by lia) (by lia) hp
  ·refine ⟨rfl,_,_,rfl,by lia,by lia,by lia,a4,fun i hi' hin=>?_⟩
   cases hpi:P i with
   | false=>rfl
   | true=>rw[hP _ i hi' hin hpi] at hp;cases hp
 ·rintro c st' ⟨rfl,lo,hi,rfl,a1,a2,a3,a4,a5⟩
  have e:lo=hi:=by lia
  subst e
  exact h lo a2 a4 a5
theorem mL {left:Bool}{key:n6}{b n hint:Nat}{st:G9}{Q:Option Nat->G9->Prop}{xs:Nat->n6} (hA:xt prog w A s rk M κ) (hk:kindOf st=κ) (mk:M key) (hh:hint<n) (hx:∀i,i<n->arr[b+i]?=some (xs i)/\M (xs i))
  (hP:∀i j,i<=j->j<n->bq rk left key (xs j)=true->bq rk left key (xs i)=true)
  (h:∀k,k<=n->(∀i,i<k->bq rk left key (xs i)=true)->(∀i,k<=i->i<n->bq rk left key (xs i)=false)->Q (some k) st):wpS (r6 prog w) A E s (oI left key arr b n hint) Q st:=by
 have step:∀(i:Nat) (Q':Option Bool->G9->Prop),i<n->Q' (some (bq rk left key (xs i))) st->wpS (r6 prog w) A E s (do let x <- elem' arr (b+i);if left=true then lt' x key else do let r <- lt' key x;pure (BA (fun x=>!x) r)) Q' st:=fun i Q' hi q=>Jn hA hk (hx i hi).1 (hx i hi).2 mk q
 refine i7 (step hint _ hh ?_)
 have BS:∀(x lo hi:Nat) (R:ForInStep (Option (Option Nat) × Nat × Nat)->G9->Prop),hi<=n->(lo ≥ hi->R (.done (none,lo,hi)) st)->(lo<hi->bq rk left key (xs (lo+(hi - lo) / 2))=true->R (.yield (none,lo+(hi - lo) / 2+1,hi)) st)->(lo<hi->bq rk left key (xs (lo+(hi - lo) / 2))=false->R (.yield (none,lo,lo+(hi - lo) / 2)) st) ->
   wpS (r6 prog w) A E s (if lo ≥ hi then pure (Ce (none,lo,hi)) else do
    let r <- (do let x <- elem' arr (b+(lo+(hi - lo) / 2));if left=true then lt' x key else do let r <- lt' key x;pure (BA (fun x=>!x) r))
    match r with
    | some more=>if more=true then pure (bG (none,lo+(hi - lo) / 2+1,hi)) else pure (bG (none,lo,lo+(hi - lo) / 2))
    | x=>pure (Ce (some none,lo,hi))) R st:=fun x lo hi R hn r1 r2 r3=>by
  by_cases hge:lo ≥ hi
  ·rw[if_pos hge];exact j8 (r1 hge)
  ·rw[if_neg hge]
   refine i7 (step _ _ (by lia) ?_)
   cases hb:bq rk left key (xs (lo+(hi - lo) / 2)) with
   | true=>exact j8 (r2 (by lia) hb)
   | false=>exact j8 (r3 (by lia) hb)
 cases hr:bq rk left key (xs hint) with
 | true =>
  dsimp only
  rw[if_pos rfl]
  refine i7 (X0 (G5 (I:=fun x c st'=>st'=st/\∃la of,c=(none,la,of)/\la<of/\x<of/\hint+la<n/\bq rk left key (xs (hint+la))=true) (Q:=fun c st'=>st'=st/\∃la of,c=(none,la,of)/\la<of/\hint+la<n/\bq rk left key (xs (hint+la))=true/\(of ≥ n - hint ∨ (hint+of<n/\bq rk left key (xs (hint+of))=false))) ?_ ?_ ⟨rfl,0,1,rfl,by decide,by decide,by simpa using hh,hr⟩) ?_)
  ·rintro x c st' _ hxn ⟨rfl,la,of,rfl,a1,a2,a3,a4⟩
   dsimp only
   by_cases hge:of ≥ n - hint
   ·rw[if_pos hge];exact j8 ⟨rfl,la,of,rfl,a1,a3,a4,.inl hge⟩
   ·rw[if_neg hge]
    refine i7 (step _ _ (by lia) ?_)
    cases hb:bq rk left key (xs (hint+of)) with
    | true =>
     dsimp only
     rw[if_neg (by decide)]
     exact j8 ⟨rfl,of,2*of+1,rfl,by lia,by lia,by lia,hb⟩
    | false =>
     dsimp only
     rw[if_pos (by decide)]
     exact j8 ⟨rfl,la,of,rfl,a1,a3,a4,.inr ⟨by lia,hb⟩⟩
  ·rintro c st' ⟨rfl,la,of,rfl,a1,a2,a3,a4⟩
   exact ⟨rfl,la,of,rfl,a1,a3,a4,.inl (by lia)⟩
  ·rintro c st' ⟨rfl,la,of,rfl,a1,a3,a4,a5⟩
   dsimp only
   refine i7 (wO (P:=fun i=>bq rk left key (xs i)) (fun x lo hi R a b c d=>BS x lo hi R a b c d) hP ?_ ?_ (fun i hi=>?_) (fun i hi hin=>?_) fun k k1 k2 k3=>j8 (h k k1 k2 k3))
   ·rcases a5 with z|z <;> lia
   ·lia
   ·exact hP i _ (by lia) a3 a4
   ·rcases a5 with z|⟨z1,z2⟩
    ·lia
    ·cases hb:bq rk left key (xs i) with
     | false=>rfl
     | true=>rw[hP _ i (by lia) hin hb] at z2;cases z2
 | false =>
  dsimp only
  rw[if_neg (by decide)]
  refine i7 (X0 (G5 (I:=fun x c st'=>st'=st/\∃la of,c=(none,la,of)/\la<of/\x<of/\la<=hint/\bq rk left key (xs (hint - la))=false) (Q:=fun c st'=>st'=st/\∃la of,c=(none,la,of)/\la<of/\la<=hint/\bq rk left key (xs (hint - la))=false/\(of ≥ hint+1 ∨ (of<=hint/\bq rk left key (xs (hint - of))=true))) ?_ ?_ ⟨rfl,0,1,rfl,by decide,by decide,by lia,hr⟩) ?_)
  ·rintro x c st' _ hxn ⟨rfl,la,of,rfl,a1,a2,a3,a4⟩
   dsimp only
   by_cases hge:of ≥ hint+1
   ·rw[if_pos hge];exact j8 ⟨rfl,la,of,rfl,a1,a3,a4,.inl hge⟩
   ·rw[if_neg hge]
    refine i7 (step _ _ (by lia) ?_)
    cases hb:bq rk left key (xs (hint - of)) with
    | true =>
     dsimp only
     rw[if_pos rfl]
     exact j8 ⟨rfl,la,of,rfl,a1,a3,a4,.inr ⟨by lia,hb⟩⟩
    | false =>
     dsimp only
     rw[if_neg (by decide)]
     exact j8 ⟨rfl,of,2*of+1,rfl,by lia,by lia,by lia,hb⟩
  ·rintro c st' ⟨rfl,la,of,rfl,a1,a2,a3,a4⟩
   exact ⟨rfl,la,of,rfl,a1,a3,a4,.inl (by lia)⟩
  ·rintro c st' ⟨rfl,la,of,rfl,a1,a3,a4,a5⟩
   dsimp only
   refine i7 (wO (P:=fun i=>bq rk left key (xs i)) (fun x lo hi R a b c d=>BS x lo hi R a b c d) hP ?_ ?_ (fun i hi=>?_) (fun i hi hin=>?_) fun k k1 k2 k3=>j8 (h k k1 k2 k3))
   ·rcases a5 with z|z <;> lia
   ·lia
   ·rcases a5 with z|⟨z1,z2⟩
    ·lia
    ·exact hP i _ (by lia) (by lia) z2
   ·cases hb:bq rk left key (xs i) with
    | false=>rfl
    | true=>rw[hP _ i (by lia) hin hb] at a4;cases a4
end
noncomputable def DK:Array n6->Array n6->StateT G9 Sem (Array n6):=sortPriv% PySem.Builtin.mergeLo
noncomputable def DL:Array n6->Array n6->StateT G9 Sem (Array n6):=sortPriv% PySem.Builtin.mergeHi
noncomputable def Up (rk:n6->Int) (l:List n6):Prop:=l.Pairwise fun x y=>rk x<=rk y
variable {rk:n6->Int}{i j:Nat}
theorem Up.le {l:List n6} (h:Up rk l) {x y:n6} (hx:l[i]?=some x) (hy:l[j]?=some y) (hij:i<=j):rk x<=rk y:=by
 rcases Nat.lt_or_eq_of_le hij with z|z
 ·have h1:=(List.getElem?_eq_some_iff.mp hx)
  have h2:=(List.getElem?_eq_some_iff.mp hy)
  have:=List.pairwise_iff_getElem.mp h i j h1.1 h2.1 z
  rw[h1.2,h2.2] at this
  exact this
 ·subst z
  rw[hx] at hy
  cases hy
  exact fg _
theorem Up.app {l m:List n6} (h:Up rk l) (k:Up rk m) (c:∀x∈l,∀y∈m,rk x<=rk y):Up rk (l++m):=List.pairwise_append.mpr ⟨h,k,c⟩
theorem Up.drop {rk:n6->Int}{l:List n6} (h:Up rk l) (i:Nat):Up rk (l.drop i):=rj (List.drop_sublist i l) h
theorem Up.take {rk:n6->Int}{l:List n6} (h:Up rk l) (i:Nat):Up rk (l.take i):=rj (Ff i l) h
structure Mg (rk:n6->Int) (la lb O:List n6) (ia ib:Nat):Prop where
 perm:O.Perm (la.take ia++lb.take ib)
 up:Up rk O
 low:∀x∈O,∀y∈la.drop ia++lb.drop ib,rk x<=rk y
variable {la lb O:List n6}{ia ib:Nat}
theorem Mg.blkA (h:Mg rk la lb O ia ib) (ua:Up rk la) (k:Nat) (c:∀x∈(la.drop ia).take k,∀y∈lb.drop ib,rk x<=rk y):Mg rk la lb (O++(la.drop ia).take k) (ia+k) ib:=by
 refine ⟨?_,h.up.app ((ua.drop ia).take k) fun x hx y hy=>h.low x hx y (G7 _ (C9 hy)),fun x hx y hy=>?_⟩
 ·have e:la.take (ia+k)=la.take ia++(la.drop ia).take k:=List.take_add
  rw[e]
  refine (h.perm.append_right _).trans ?_
  rw[Y5,Y5]
  exact (aU).append_left _
 ·have hd:la.drop (ia+k)=(la.drop ia).drop k:=by rw[kL]
  rw[hd] at hy
  rcases List.mem_append.mp hx with hx|hx
  ·rcases List.mem_append.mp hy with hy|hy
   ·exact h.low x hx y (G7 _ (N7 hy))
   ·exact h.low x hx y (v9 _ hy)
  ·rcases List.mem_append.mp hy with hy|hy
   ·have:=ua.drop ia
    rw[<- T7 k (la.drop ia)] at this
    exact (List.pairwise_append.mp this).2.2 x hx y hy
   ·exact c x hx y hy
theorem Mg.swap (h:Mg rk la lb O ia ib):Mg rk lb la O ib ia :=
 ⟨h.perm.trans aU,h.up,fun x hx y hy=>h.low x hx y (by rcases List.mem_append.mp hy with z|z <;> simp[z])⟩
theorem Mg.blkB (h:Mg rk la lb O ia ib) (ub:Up rk lb) (k:Nat) (c:∀y∈(lb.drop ib).take k,∀x∈la.drop ia,rk y<=rk x):Mg rk la lb (O++(lb.drop ib).take k) ia (ib+k):=
 (h.swap.blkA ub k c).swap
theorem Mg.fin (h:Mg rk la lb O ia ib) (ua:Up rk la) (ub:Up rk lb) (c:∀x∈la.drop ia,∀y∈lb.drop ib,rk x<=rk y):(O++la.drop ia++lb.drop ib).Perm (la++lb)/\Up rk (O++la.drop ia++lb.drop ib):=by
 have h1:=h.blkA ua (la.drop ia).length (fun x hx=>c x (C9 hx))
 rw[E2] at h1
 have h2:=h1.blkB ub (lb.drop ib).length (fun y hy x hx=>by
  rw[R9 (by rw[K0];lia)] at hx
  cases hx)
 rw[E2] at h2
 refine ⟨h2.perm.trans ?_,h2.up⟩
 rw[G6 (by rw[K0];lia),G6 (by rw[K0];lia)]
theorem Mg.fin' (h:Mg rk la lb O ia ib) (ua:Up rk la) (ub:Up rk lb) (c:∀y∈lb.drop ib,∀x∈la.drop ia,rk y<=rk x):(O++lb.drop ib++la.drop ia).Perm (la++lb)/\Up rk (O++lb.drop ib++la.drop ia):=by
 obtain ⟨p,u⟩:=h.swap.fin ub ua c
 exact ⟨p.trans aU,u⟩
set_option maxHeartbeats 4000000
noncomputable def Gl (st st':G9):Prop:=kindOf st'=kindOf st/\dF st'=dF st/\Z2 st'=Z2 st/\dX st'=dX st
theorem Gl.refl (st:G9):Gl st st:=⟨rfl,rfl,rfl,rfl⟩
noncomputable def Fn (rk:n6->Int) (a b r:Array n6):Prop:=r.toList.Perm (a.toList++b.toList)/\Up rk r.toList
noncomputable abbrev kQ (rk:n6->Int) (a b out:Array n6) (ia ib:Nat):Prop:=Mg rk a.toList b.toList out.toList ia ib
section
variable {rk:n6->Int}{a b out:Array n6}{ia ib:Nat}
theorem jo (a:Array n6) (i j:Nat):(a.extract i j).toList=(a.toList.drop i).take (j - i):=by simp[Array.toList_extract,List.extract]
variable {i:Nat}{x:n6}
theorem O2 (h:a[i]?=some x):a.toList[i]?=some x:=by simpa using h
theorem ui (h:a[i]?=some x):(a.toList.drop i).take 1=[x]:=by
 have h1:=List.getElem?_eq_some_iff.mp (O2 h)
 rw[vk h1.1,h1.2];rfl
theorem kQ.pushA (h:kQ rk a b out ia ib) (ua:Up rk a.toList) (hx:a[ia]?=some x) (c:∀y∈b.toList.drop ib,rk x<=rk y):kQ rk a b (out.push x) (ia+1) ib:=by
 have:=Mg.blkA h ua 1 (fun z hz y hy=>by rw[ui hx] at hz;rw[List.mem_singleton.mp hz];exact c y hy)
 rw[ui hx] at this
 show Mg rk _ _ (out.push x).toList _ _
 rw[cQ];exact this
theorem kQ.pushB (h:kQ rk a b out ia ib) (ub:Up rk b.toList) (hx:b[ib]?=some x) (c:∀y∈a.toList.drop ia,rk x<=rk y):kQ rk a b (out.push x) ia (ib+1):=by
 have:=Mg.blkB h ub 1 (fun z hz y hy=>by rw[ui hx] at hz;rw[List.mem_singleton.mp hz];exact c y hy)
 rw[ui hx] at this
 show Mg rk _ _ (out.push x).toList _ _
 rw[cQ];exact this
theorem kQ.extA (h:kQ rk a b out ia ib) (ua:Up rk a.toList) (k:Nat) (c:∀x∈(a.toList.drop ia).take k,∀y∈b.toList.drop ib,rk x<=rk y):kQ rk a b (out++a.extract ia (ia+k)) (ia+k) ib:=by
 show Mg rk _ _ (out++a.extract ia (ia+k)).toList _ _
 rw[G3,jo,show ia+k - ia=k by lia]
 exact Mg.blkA h ua k c
theorem kQ.extB (h:kQ rk a b out ia ib) (ub:Up rk b.toList) (k:Nat) (c:∀x∈(b.toList.drop ib).take k,∀y∈a.toList.drop ia,rk x<=rk y):kQ rk a b (out++b.extract ib (ib+k)) ia (ib+k):=by
 show Mg rk _ _ (out++b.extract ib (ib+k)).toList _ _
 rw[G3,jo,show ib+k - ib=k by lia]
 exact Mg.blkB h ub k c
theorem oM (a:Array n6) (i:Nat):(a.extract i).toList=a.toList.drop i:=by
 rw[jo,G6 (by rw[K0,D9];lia)]
theorem kQ.done (h:kQ rk a b out ia ib) (ua:Up rk a.toList) (ub:Up rk b.toList) (c:∀x∈a.toList.drop ia,∀y∈b.toList.drop ib,rk x<=rk y):Fn rk a b (out++a.extract ia++b.extract ib):=by
 unfold Fn
 rw[G3,G3,oM,oM]
 exact Mg.fin h ua ub c
theorem kQ.last (h:kQ rk a b out ia ib) (ua:Up rk a.toList) (ub:Up rk b.toList) (c:∀y∈b.toList.drop ib,∀x∈a.toList.drop ia,rk y<=rk x):Fn rk a b (out++b.extract ib++a.extract ia):=by
 unfold Fn
 rw[G3,G3,oM,oM]
 exact Mg.fin' h ua ub c
theorem zo {n:Nat} (h:a.size<=n) {P:n6->Prop}:∀x∈a.toList.drop n,P x:=fun x hx=>by
 rw[R9 (by rw[D9];exact h)] at hx
 cases hx
theorem fM {u:Up rk a.toList}(hx:a[i]?=some x):∀y∈a.toList.drop i,rk x<=rk y:=fun y hy=>by
 obtain ⟨j,hj⟩:=List.mem_iff_getElem?.mp hy
 rw[N9] at hj
 exact u.le (O2 hx) hj (by lia)
theorem Dp (hi:i+1=a.size) (hx:a[i]?=some x):∀y∈a.toList.drop i,y=x:=fun y hy=>by
 obtain ⟨j,hj⟩:=List.mem_iff_getElem?.mp hy
 rw[N9] at hj
 have h1:=(List.getElem?_eq_some_iff.mp hj).1
 rw[D9] at h1
 have e:i+j=i:=by lia
 rw[e,O2 hx] at hj
 cases hj
 rfl
theorem Z7 (h:i<a.size):∃x,a[i]?=some x/\x∈a.toList:=⟨a[i],O4 h,Array.getElem_mem_toList h⟩
theorem pq {k:Nat}(h:x∈(a.toList.drop i).take k):∃j,j<k/\a[i+j]?=some x:=by
 obtain ⟨j,hj⟩:=List.mem_iff_getElem?.mp h
 rw[Q0] at hj
 split at hj
 ·rename_i hjk
  rw[N9] at hj
  exact ⟨j,hjk,by simpa using hj⟩
 ·cases hj
end
section
variable {prog:j7}{w:u9}{A:A8}{E:b9->d9->Prop}{s:d9}{rk:n6->Int}{M:n6->Prop}{κ:dZ}
theorem gal {left:Bool}{key:n6}{a:Array n6}{i:Nat}{st:G9}{Q:Option Nat->G9->Prop} (hA:xt prog w A s rk M κ) (hk:kindOf st=κ) (mk:M key) (ma:∀x∈a.toList,M x) (u:Up rk a.toList) (hi:i<a.size)
  (h:∀k,i+k<=a.size->(∀x∈(a.toList.drop i).take k,bq rk left key x=true)->(∀x,a[i+k]?=some x->bq rk left key x=false)->Q (some k) st):wpS (r6 prog w) A E s (oI left key a i (a.size - i) 0) Q st:=by
 have hg:∀j,j<a.size - i->a[i+j]?=some (a.getD (i+j) key):=fun j hj=>by
  rw[O4 (by lia)]
  simp[Ck,show i+j<a.size by lia]
 refine mL (xs:=fun j=>a.getD (i+j) key) hA hk mk (by lia) (fun j hj=>⟨hg j hj,?_⟩) (fun j1 j2 h12 h2 hb=>?_) (fun k h1 h2 h3=>h k (by lia) (fun x hx=>?_) (fun x hx=>?_))
 ·have:=hg j hj
  exact ma _ (m8 (O2 this))
 ·have hle:=u.le (O2 (hg j1 (by lia))) (O2 (hg j2 h2)) (by lia)
  unfold bq at hb ⊢
  cases left with
  | true =>
   rw[if_pos rfl] at hb ⊢
   have:=of_decide_eq_true hb
   exact decide_eq_true (by lia)
  | false =>
   rw[if_neg (by decide)] at hb ⊢
   rw[Y6,decide_eq_false_iff_not] at hb ⊢
   lia
 ·obtain ⟨j,hj,hx'⟩:=pq hx
  have:=h2 j hj
  have e:=hg j (by lia)
  rw[hx'] at e
  injection e with e
  show bq rk left key x=true
  rw[e];exact this
 ·have hlt:=(Array.getElem?_eq_some_iff.mp hx).1
  have:=h3 k (i6 _) (by lia)
  have e:=hg k (by lia)
  rw[hx] at e
  injection e with e
  show bq rk left key x=false
  rw[e];exact this
end
section
variable {prog:j7}{w:u9}{A:A8}{E:b9->d9->Prop}{s:d9}{rk:n6->Int}{M:n6->Prop}{κ:dZ}
theorem JI {α β δ:Type}{C:α->β->Prop}{N:lQ}{f:α->β->StateT G9 Sem δ}{Q:δ->G9->Prop}{st:G9}{G:Prop} (h:(∀x y,C x y->wpS N A E s (f x y) Q st)->G) (t:∀x y,C x y->wpS N A E s (f x y) Q st):G:=h t
theorem yp {a b:Array n6}{st:G9}{Q:Array n6->G9->Prop} (hA:xt prog w A s rk M κ) (hk:kindOf st=κ) (ma:∀x∈a.toList,M x) (mb:∀x∈b.toList,M x) (ua:Up rk a.toList) (ub:Up rk b.toList) (sa:0<a.size) (sb:0<b.size)
  (h0:∀x y,a[0]?=some x->b[0]?=some y->rk y<=rk x) (hl:∀x,a[a.size - 1]?=some x->∀y∈b.toList,rk y<=rk x)
  (h:∀r st',Fn rk a b r->Gl st st'->Q r st'):wpS (r6 prog w) A E s (DK a b) Q st:=by
 obtain ⟨b0,hb0,_⟩:=Z7 (a:=b) sb
 obtain ⟨a0,ha0,_⟩:=Z7 (a:=a) sa
 obtain ⟨al,hal,_⟩:=Z7 (a:=a) (i:=a.size - 1) (by lia)
 have hlast:=hl al hal
 have LAST:∀{out:Array n6}{ia ib:Nat},kQ rk a b out ia ib->ia+1=a.size->Fn rk a b (out++b.extract ib++a.extract ia):=fun {out ia ib} hm e=>by
  refine hm.last ua ub fun y hy x hx=>?_
  have:a[ia]?=some al:=by rw[<- hal];congr 1;lia
  rw[Dp e this x hx]
  exact hlast y (N7 hy)
 have ENDB:∀{out:Array n6}{ia ib:Nat},kQ rk a b out ia ib->ib=b.size->Fn rk a b (out++a.extract ia++b.extract ib):=fun {out ia ib} hm e=>hm.done ua ub fun x _=>zo (by lia)
 have ENDA:∀{out:Array n6}{ia ib:Nat},kQ rk a b out ia ib->ia=a.size->Fn rk a b (out++a.extract ia++b.extract ib):=fun {out ia ib} hm e=>hm.done ua ub (zo (by lia))
 refine i7 (fO (Q9 ⟨rfl,?_⟩))
 refine i7 (M5 hb0 ?_)
 have m0:kQ rk a b #[b0] 0 1:=by
  have z:kQ rk a b #[] 0 0:=⟨by simp,bL,fun x hx=>by simp at hx⟩
  exact z.pushB ub hb0 fun y hy=>E9 (h0 a0 b0 ha0 hb0) (fM (u:=ua) ha0 y hy)
 dsimp only
 by_cases e1:(1 == b.size)=true
 ·rw[if_pos e1]
  exact j8 (h _ _ (ENDB m0 (by simpa using e1)) (Gl.refl st))
 rw[if_neg e1]
 by_cases e2:(0+1 == a.size)=true
 ·rw[if_pos e2]
  exact j8 (h _ _ (LAST m0 (by simpa using e2)) (Gl.refl st))
 rw[if_neg e2]
 have sb2:1<b.size:=by
  have:1≠b.size:=by simpa using e1
  lia
 have sa2:0+1<a.size:=by
  have:0+1≠a.size:=by simpa using e2
  lia
 refine i7 (Y4 ?_)
 refine i7 (X0 (G5 (I:=fun x c st'=>Gl st st'/\∃out ia ib mg,c=(none,out,ia,ib,mg)/\kQ rk a b out ia ib/\ia+1<a.size/\ib<b.size/\1+x<=ia+ib)
  (Q:=fun c st'=>Gl st st'/\∃r,c.1=some r/\Fn rk a b r) ?_ ?_ ⟨Gl.refl st,_,_,_,_,rfl,m0,sa2,sb2,by lia⟩) ?_)
 rotate_left
 ·rintro c st' ⟨_,out,ia,ib,mg,rfl,_,z1,z2,z3⟩
  lia
 ·rintro ⟨c1,c2⟩ st' ⟨gl,r,hr,hf⟩
  dsimp only at hr
  subst hr
  exact j8 (h r st' hf gl)
 rintro x c st1 _ hx ⟨gl,out,ia,ib,mg,rfl,hm,za,zb,zp⟩
 have hk1:kindOf st1=κ:=gl.1.trans hk
 dsimp only
 refine i7 (X0 (G5 (I:=fun y c st'=>st'=st1/\∃out ia ib ac bc,c=(none,out,ia,ib,ac,bc)/\kQ rk a b out ia ib/\ia+1<a.size/\ib<b.size/\1+x+y<=ia+ib)
  (Q:=fun c st'=>st'=st1/\((∃r,c.1=some r/\Fn rk a b r) ∨ ∃out ia ib ac bc,c=(none,out,ia,ib,ac,bc)/\kQ rk a b out ia ib/\ia+1<a.size/\ib<b.size/\1+x+1<=ia+ib)) ?_ ?_ ⟨rfl,out,ia,ib,0,0,rfl,hm,za,zb,by lia⟩) ?_)
 ·rintro y c st' _ hy ⟨rfl,out,ia,ib,ac,bc,rfl,hm,za,zb,zp⟩
  obtain ⟨bx,hbx,mbx⟩:=Z7 (a:=b) zb
  obtain ⟨ax,hax,max⟩:=Z7 (a:=a) (i:=ia) (by lia)
  dsimp only
  refine i7 (M5 hbx (i7 (M5 hax (i7 (oY hA hk1 (mb bx mbx) (ma ax max) ?_)))))
  by_cases hlt:rk bx<rk ax
  ·rw[decide_eq_true hlt]
   dsimp only
   rw[if_pos rfl]
   refine i7 (M5 hbx ?_)
   have hm':=hm.pushB ub hbx fun y hy=>E9 (aE hlt) (fM (u:=ua) hax y hy)
   by_cases e3:(ib+1 == b.size)=true
   ·rw[if_pos e3]
    exact j8 ⟨rfl,.inl ⟨_,rfl,ENDB hm' (by simpa using e3)⟩⟩
   rw[if_neg e3]
   have e3':ib+1≠b.size:=by simpa using e3
   split
   ·exact j8 ⟨rfl,.inr ⟨_,_,_,_,_,rfl,hm',za,by lia,by lia⟩⟩
   ·exact j8 ⟨rfl,_,_,_,_,_,rfl,hm',za,by lia,by lia⟩
  ·rw[decide_eq_false hlt]
   dsimp only
   rw[if_neg (by decide)]
   refine i7 (M5 hax ?_)
   have hm':=hm.pushA ua hax fun y hy=>E9 (Int.not_lt.mp hlt) (fM (u:=ub) hbx y hy)
   by_cases e3:(ia+1+1 == a.size)=true
   ·rw[if_pos e3]
    exact j8 ⟨rfl,.inl ⟨_,rfl,LAST hm' (by simpa using e3)⟩⟩
   rw[if_neg e3]
   have e3':ia+1+1≠a.size:=by simpa using e3
   split
   ·exact j8 ⟨rfl,.inr ⟨_,_,_,_,_,rfl,hm',by lia,zb,by lia⟩⟩
   ·exact j8 ⟨rfl,_,_,_,_,_,rfl,hm',by lia,zb,by lia⟩
 ·rintro c st' ⟨rfl,out,ia,ib,ac,bc,rfl,hm,z1,z2,z3⟩
  lia
 rintro ⟨c1,c2⟩ st' ⟨rfl,(⟨r,hr,hf⟩|⟨out,ia,ib,ac,bc,e,hm,za,zb,zp⟩)⟩
 ·dsimp only at hr
  subst hr
  exact j8 ⟨gl,r,rfl,hf⟩
 cases e
 dsimp only
 refine i7 (fO (Q9 ⟨rfl,?_⟩))
 refine i7 (X0 (G5 (I:=fun y c st'=>Gl st st'/\∃out ia ib mg ac bc,c=(none,out,ia,ib,mg,ac,bc)/\kQ rk a b out ia ib/\ia+1<a.size/\ib<b.size/\1+x+1+y<=ia+ib)
  (Q:=fun c st'=>Gl st st'/\((∃r,c.1=some r/\Fn rk a b r) ∨ ∃out ia ib mg ac bc,c=(none,out,ia,ib,mg,ac,bc)/\kQ rk a b out ia ib/\ia+1<a.size/\ib<b.size/\1+x+1<=ia+ib)) ?_ ?_ ⟨gl,out,ia,ib,_,ac,bc,rfl,hm,za,zb,by lia⟩) ?_)
 ·rintro y c st2 _ hy ⟨gl2,out,ia,ib,mg,ac,bc,rfl,hm,za,zb,zp⟩
  obtain ⟨bx,hbx,mbx⟩:=Z7 (a:=b) zb
  dsimp only
  apply JI (C:=fun m n:Nat=>True)
  ·intro T
   by_cases hmg:mg<=1
   ·rw[if_neg (by lia)]
    obtain ⟨q,_⟩:∃q:Nat,q=0:=⟨0,rfl⟩
    generalize mg=m
    exact T m q trivial
   ·rw[if_pos (by lia)]
    exact T _ 0 trivial
  intro mg _ _
  refine i7 (G8 ?_)
  refine i7 (M5 hbx ?_)
  refine i7 (gal hA (gl2.1.trans hk) (mb bx mbx) ma ua (by lia) fun k hk1' hk2 hk3=>?_)
  dsimp only
  have hbk:∀x∈(a.toList.drop ia).take k,rk x<=rk bx:=fun x hx=>by
   have:=hk2 x hx
   unfold bq at this
   rw[if_neg (by decide),Y6,decide_eq_false_iff_not] at this
   lia
  have hkk:∀ax,a[ia+k]?=some ax->rk bx<rk ax:=fun ax hax=>by
   have:=hk3 ax (by simpa using hax)
   unfold bq at this
   rw[if_neg (by decide),ni,decide_eq_true_iff] at this
   exact this
  have hm1:=hm.extA ua k fun x hx y hy=>E9 (hbk x hx) (fM (u:=ub) hbx y hy)
  have hk00:k=0->∀ax,a[ia]?=some ax->rk bx<rk ax:=fun e=>by subst e;exact hkk
  apply JI (C:=fun (o:Array n6) i=>kQ rk a b o i ib/\i+1<a.size/\1+x+1+y<=i+ib/\∀ax,a[i]?=some ax->rk bx<rk ax)
  ·intro T
   by_cases hk0:k=0
   ·rw[if_neg (by lia)]
    have hc:kQ rk a b out ia ib/\ia+1<a.size/\1+x+1+y<=ia+ib/\∀ax,a[ia]?=some ax->rk bx<rk ax:=⟨hm,za,zp,hk00 hk0⟩
    revert hc
    generalize ia=i
    generalize out=o
    intro hc
    exact T o i hc
   rw[if_pos (by lia)]
   by_cases e4:(ia+k+1 == a.size)=true
   ·rw[if_pos e4]
    exact j8 ⟨⟨gl2.1,gl2.2.1,gl2.2.2.1,gl2.2.2.2⟩,.inl ⟨_,rfl,LAST hm1 (by simpa using e4)⟩⟩
   rw[if_neg e4]
   by_cases e5:(ia+k == a.size)=true
   ·rw[if_pos e5]
    exact j8 ⟨⟨gl2.1,gl2.2.1,gl2.2.2.1,gl2.2.2.2⟩,.inl ⟨_,rfl,ENDA hm1 (by simpa using e5)⟩⟩
   rw[if_neg e5]
   have e4':ia+k+1≠a.size:=by simpa using e4
   have e5':ia+k≠a.size:=by simpa using e5
   exact T _ _ ⟨hm1,by lia,by lia,hkk⟩
  intro o i ⟨hm,za,zp,hlt⟩
  obtain ⟨ax,hax,max⟩:=Z7 (a:=a) (i:=i) (by lia)
  have hba:=hlt ax hax
  refine i7 (M5 hbx ?_)
  have hm2:=hm.pushB ub hbx fun y hy=>E9 (aE hba) (fM (u:=ua) hax y hy)
  by_cases e6:(ib+1 == b.size)=true
  ·rw[if_pos e6]
   exact j8 ⟨⟨gl2.1,gl2.2.1,gl2.2.2.1,gl2.2.2.2⟩,.inl ⟨_,rfl,ENDB hm2 (by simpa using e6)⟩⟩
  rw[if_neg e6]
  have e6':ib+1≠b.size:=by simpa using e6
  generalize o.push bx=o2 at hm2 ⊢
  generalize hl:ib+1=l at hm2 e6' ⊢
  refine i7 (M5 hax ?_)
  refine i7 (gal hA (gl2.1.trans hk) (ma ax max) mb ub (i:=l) (by lia) fun j hj1 hj2 hj3=>?_)
  dsimp only
  have hbj:∀z∈(b.toList.drop l).take j,rk z<=rk ax:=fun z hz=>by
   have:=hj2 z hz
   unfold bq at this
   rw[if_pos rfl,decide_eq_true_iff] at this
   lia
  have hjj:∀z,b[l+j]?=some z->rk ax<=rk z:=fun z hz=>by
   have:=hj3 z (by simpa using hz)
   unfold bq at this
   rw[if_pos rfl,decide_eq_false_iff_not] at this
   lia
  have hm3:=hm2.extB ub j fun z hz y hy=>E9 (hbj z hz) (fM (u:=ua) hax y hy)
  have hj00:j=0->∀z,b[l]?=some z->rk ax<=rk z:=fun e=>by subst e;exact hjj
  apply JI (C:=fun (o:Array n6) n=>kQ rk a b o i n/\n<b.size/\1+x+1+y<=i+n/\∀z,b[n]?=some z->rk ax<=rk z)
  ·intro T
   by_cases hj0:j=0
   ·rw[if_neg (by lia)]
    have hc:kQ rk a b o2 i l/\l<b.size/\1+x+1+y<=i+l/\∀z,b[l]?=some z->rk ax<=rk z:=⟨hm2,by lia,by lia,hj00 hj0⟩
    revert hc
    generalize l=n
    generalize o2=o
    intro hc
    exact T o n hc
   rw[if_pos (by lia)]
   by_cases e7:(l+j == b.size)=true
   ·rw[if_pos e7]
    exact j8 ⟨⟨gl2.1,gl2.2.1,gl2.2.2.1,gl2.2.2.2⟩,.inl ⟨_,rfl,ENDB hm3 (by simpa using e7)⟩⟩
   rw[if_neg e7]
   have e7':l+j≠b.size:=by simpa using e7
   exact T _ _ ⟨hm3,by lia,by lia,hjj⟩
  intro o n ⟨hm,zn,zp,hle⟩
  refine i7 (M5 hax ?_)
  obtain ⟨bz,hbz,_⟩:=Z7 (a:=b) (i:=n) zn
  have hm4:=hm.pushA ua hax fun y hy=>E9 (hle bz hbz) (fM (u:=ub) hbz y hy)
  by_cases e8:(i+1+1 == a.size)=true
  ·rw[if_pos e8]
   exact j8 ⟨⟨gl2.1,gl2.2.1,gl2.2.2.1,gl2.2.2.2⟩,.inl ⟨_,rfl,LAST hm4 (by simpa using e8)⟩⟩
  rw[if_neg e8]
  have e8':i+1+1≠a.size:=by simpa using e8
  split
  ·exact j8 ⟨⟨gl2.1,gl2.2.1,gl2.2.2.1,gl2.2.2.2⟩,.inr ⟨_,_,_,_,_,_,rfl,hm4,by lia,by lia,by lia⟩⟩
  ·exact j8 ⟨⟨gl2.1,gl2.2.1,gl2.2.2.1,gl2.2.2.2⟩,_,_,_,_,_,_,rfl,hm4,by lia,by lia,by lia⟩
 ·rintro c st' ⟨_,out,ia,ib,mg,ac,bc,rfl,hm,z1,z2,z3⟩
  lia
 ·rintro ⟨c1,c2⟩ st2 ⟨gl2,(⟨r,hr,hf⟩|⟨out,ia,ib,mg,ac,bc,e,hm,za,zb,zp⟩)⟩
  ·dsimp only at hr
   subst hr
   exact j8 ⟨gl2,r,rfl,hf⟩
  ·cases e
   dsimp only
   refine i7 (G8 ?_)
   exact j8 ⟨⟨gl2.1,gl2.2.1,gl2.2.2.1,gl2.2.2.2⟩,_,_,_,_,rfl,hm,za,zb,by lia⟩
end
structure Mh (rk:n6->Int) (la lb O:List n6) (na nb:Nat):Prop where
 perm:O.Perm (la.drop na++lb.drop nb)
 up:Up rk O
 hi:∀x∈la.take na++lb.take nb,∀y∈O,rk x<=rk y
variable {na nb:Nat}
theorem Mh.swap (h:Mh rk la lb O na nb):Mh rk lb la O nb na :=
 ⟨h.perm.trans aU,h.up,fun x hx y hy=>h.hi x (by rcases List.mem_append.mp hx with z|z <;> simp[z]) y hy⟩
theorem Mh.blkA (h:Mh rk la lb O na nb) (ua:Up rk la) (k:Nat) (hk:k<=na) (c:∀x∈(la.take na).drop k,∀y∈lb.take nb,rk y<=rk x):Mh rk la lb ((la.take na).drop k++O) k nb:=by
 have ht:la.take k=(la.take na).take k:=by rw[uS,jR hk]
 refine ⟨?_,((ua.take na).drop k).app h.up fun x hx y hy=>h.hi x (G7 _ (N7 hx)) y hy,fun x hx y hy=>?_⟩
 ·have e:la.drop k=(la.take na).drop k++la.drop na:=by
   have h1:la=la.take na++la.drop na:=(T7 na la).symm
   by_cases hn:na<=la.length
   ·conv=>lhs;rw[h1]
    rw[rE (by rw[v7];lia)]
   ·rw[G6 (by lia),R9 (show la.length<=na by lia),V5]
  rw[e,Y5]
  exact h.perm.append_left _
 ·rcases List.mem_append.mp hy with hy|hy
  ·rcases List.mem_append.mp hx with hx|hx
   ·rw[ht] at hx
    have:=ua.take na
    rw[<- T7 k (la.take na)] at this
    exact (List.pairwise_append.mp this).2.2 x hx y hy
   ·exact c y hy x hx
  ·rcases List.mem_append.mp hx with hx|hx
   ·rw[ht] at hx
    exact h.hi x (G7 _ (C9 hx)) y hy
   ·exact h.hi x (v9 _ hx) y hy
theorem Mh.blkB (h:Mh rk la lb O na nb) (ub:Up rk lb) (k:Nat) (hk:k<=nb) (c:∀y∈(lb.take nb).drop k,∀x∈la.take na,rk x<=rk y):Mh rk la lb ((lb.take nb).drop k++O) na k :=
 (h.swap.blkA ub k hk c).swap
theorem Mh.fin (h:Mh rk la lb O na nb) (ua:Up rk la) (ub:Up rk lb) (c:∀x∈la.take na,∀y∈lb.take nb,rk x<=rk y):(la.take na++lb.take nb++O).Perm (la++lb)/\Up rk (la.take na++lb.take nb++O):=by
 have h1:=h.blkB ub 0 (v8 _) (fun y hy x hx=>c x hx y (by simpa using hy))
 rw[P2] at h1
 have h2:=h1.blkA ua 0 (v8 _) (fun x _ y hy=>by simp at hy)
 rw[P2,<- Y5] at h2
 exact ⟨h2.perm,h2.up⟩
theorem Mh.fin' (h:Mh rk la lb O na nb) (ua:Up rk la) (ub:Up rk lb) (c:∀y∈lb.take nb,∀x∈la.take na,rk y<=rk x):(lb.take nb++la.take na++O).Perm (la++lb)/\Up rk (lb.take nb++la.take na++O):=by
 obtain ⟨p,u⟩:=h.swap.fin ub ua c
 exact ⟨p.trans aU,u⟩
noncomputable abbrev kP (rk:n6->Int) (a b out:Array n6) (na nb:Nat):Prop:=Mh rk a.toList b.toList out.toList.reverse na nb
section
variable {rk:n6->Int}{a b out:Array n6}{na nb:Nat}
variable {i n:Nat}{x:n6}
theorem tJ (hn:n=i+1) (h:a[i]?=some x):(a.toList.take n).drop i=[x]:=by
 subst hn
 have h1:=List.getElem?_eq_some_iff.mp (O2 h)
 have hl:=h1.1
 rw[E3,f7 h1.1,h1.2,rE (by rw[v7];lia),R9 (by rw[v7];lia)]
 rfl
theorem kP.pushA (h:kP rk a b out na nb) (ua:Up rk a.toList) (hi:na=i+1) (hx:a[i]?=some x) (c:∀y∈b.toList.take nb,rk y<=rk x):kP rk a b (out.push x) i nb:=by
 have:=Mh.blkA h ua i (by lia) (fun z hz y hy=>by rw[tJ hi hx] at hz;rw[List.mem_singleton.mp hz];exact c y hy)
 rw[tJ hi hx] at this
 show Mh rk _ _ (out.push x).toList.reverse _ _
 rw[cQ,fF];exact this
theorem kP.pushB (h:kP rk a b out na nb) (ub:Up rk b.toList) (hi:nb=i+1) (hx:b[i]?=some x) (c:∀y∈a.toList.take na,rk y<=rk x):kP rk a b (out.push x) na i:=by
 have:=Mh.blkB h ub i (by lia) (fun z hz y hy=>by rw[tJ hi hx] at hz;rw[List.mem_singleton.mp hz];exact c y hy)
 rw[tJ hi hx] at this
 show Mh rk _ _ (out.push x).toList.reverse _ _
 rw[cQ,fF];exact this
theorem oK (a:Array n6) (k n:Nat):(a.extract k n).toList=(a.toList.take n).drop k:=by
 rw[jo,List.drop_take]
theorem kP.extA (h:kP rk a b out na nb) (ua:Up rk a.toList) (k:Nat) (hk:k<=na) (c:∀x∈(a.toList.take na).drop k,∀y∈b.toList.take nb,rk y<=rk x):kP rk a b (out++(a.extract k na).reverse) k nb:=by
 show Mh rk _ _ (out++(a.extract k na).reverse).toList.reverse _ _
 rw[G3,eh,fF,BC,oK]
 exact Mh.blkA h ua k hk c
theorem kP.extB (h:kP rk a b out na nb) (ub:Up rk b.toList) (k:Nat) (hk:k<=nb) (c:∀x∈(b.toList.take nb).drop k,∀y∈a.toList.take na,rk y<=rk x):kP rk a b (out++(b.extract k nb).reverse) na k:=by
 show Mh rk _ _ (out++(b.extract k nb).reverse).toList.reverse _ _
 rw[G3,eh,fF,BC,oK]
 exact Mh.blkB h ub k hk c
theorem oJ (a:Array n6) (n:Nat):(a.extract 0 n).toList=a.toList.take n:=by rw[oK,P2]
theorem kP.done (h:kP rk a b out na nb) (ua:Up rk a.toList) (ub:Up rk b.toList) (c:∀x∈a.toList.take na,∀y∈b.toList.take nb,rk x<=rk y):Fn rk a b (a.extract 0 na++b.extract 0 nb++out.reverse):=by
 unfold Fn
 rw[G3,G3,oJ,oJ,eh]
 exact Mh.fin h ua ub c
theorem kP.first (h:kP rk a b out na nb) (ua:Up rk a.toList) (ub:Up rk b.toList) (c:∀y∈b.toList.take nb,∀x∈a.toList.take na,rk y<=rk x):Fn rk a b (b.extract 0 nb++a.extract 0 na++out.reverse):=by
 unfold Fn
 rw[G3,G3,oJ,oJ,eh]
 exact Mh.fin' h ua ub c
theorem uw {u:Up rk a.toList}(hn:n<=i+1) (hx:a[i]?=some x):∀y∈a.toList.take n,rk y<=rk x:=fun y hy=>by
 obtain ⟨j,hj⟩:=List.mem_iff_getElem?.mp hy
 rw[Q0] at hj
 split at hj
 ·exact u.le hj (O2 hx) (by lia)
 ·cases hj
theorem AG (hn:n=1) (hx:a[0]?=some x):∀y∈a.toList.take n,y=x:=fun y hy=>by
 subst hn
 obtain ⟨j,hj⟩:=List.mem_iff_getElem?.mp hy
 rw[Q0] at hj
 split at hj
 ·have:j=0:=by lia
  subst this
  rw[O2 hx] at hj
  cases hj
  rfl
 ·cases hj
end
section
variable {prog:j7}{w:u9}{A:A8}{E:b9->d9->Prop}{s:d9}{rk:n6->Int}{M:n6->Prop}{κ:dZ}
theorem Lp {left:Bool}{key:n6}{a:Array n6}{n:Nat}{st:G9}{Q:Option Nat->G9->Prop} (hA:xt prog w A s rk M κ) (hk:kindOf st=κ) (mk:M key) (ma:∀x∈a.toList,M x) (u:Up rk a.toList) (hn:0<n) (hs:n<=a.size)
  (h:∀k,k<=n->(∀x∈a.toList.take k,bq rk left key x=true)->(∀x∈(a.toList.take n).drop k,bq rk left key x=false)->Q (some k) st):wpS (r6 prog w) A E s (oI left key a 0 n (n - 1)) Q st:=by
 have hg:∀j,j<n->a[0+j]?=some (a.getD j key):=fun j hj=>by
  rw[K5,O4 (by lia)]
  simp[Ck,show j<a.size by lia]
 have hg':∀j,j<n->a[j]?=some (a.getD j key):=fun j hj=>by have:=hg j hj;rw[K5] at this;exact this
 refine mL (xs:=fun j=>a.getD j key) hA hk mk (by lia) (fun j hj=>⟨hg j hj,?_⟩) (fun j1 j2 h12 h2 hb=>?_) (fun k h1 h2 h3=>h k (by lia) (fun x hx=>?_) (fun x hx=>?_))
 ·exact ma _ (m8 (O2 (hg' j hj)))
 ·have hle:=u.le (O2 (hg' j1 (by lia))) (O2 (hg' j2 h2)) (by lia)
  unfold bq at hb ⊢
  cases left with
  | true =>
   rw[if_pos rfl] at hb ⊢
   have:=of_decide_eq_true hb
   exact decide_eq_true (by lia)
  | false =>
   rw[if_neg (by decide)] at hb ⊢
   rw[Y6,decide_eq_false_iff_not] at hb ⊢
   lia
 ·obtain ⟨j,hj,hx'⟩:=pq (i:=0) (by simpa using hx)
  have:=h2 j hj
  have e:=hg j (by lia)
  rw[hx'] at e
  injection e with e
  show bq rk left key x=true
  rw[e];exact this
 ·obtain ⟨j,hj⟩:=List.mem_iff_getElem?.mp hx
  rw[N9,Q0] at hj
  split at hj
  ·rename_i hlt
   have:=h3 (k+j) (by lia) hlt
   have e:=O2 (hg' (k+j) hlt)
   rw[hj] at e
   injection e with e
   show bq rk left key x=false
   rw[e];exact this
  ·cases hj
end
section
variable {prog:j7}{w:u9}{A:A8}{E:b9->d9->Prop}{s:d9}{rk:n6->Int}{M:n6->Prop}{κ:dZ}
theorem yq {a b:Array n6}{st:G9}{Q:Array n6->G9->Prop} (hA:xt prog w A s rk M κ) (hk:kindOf st=κ) (ma:∀x∈a.toList,M x) (mb:∀x∈b.toList,M x) (ua:Up rk a.toList) (ub:Up rk b.toList) (sa:0<a.size) (sb:0<b.size)
  (h0:∀x y,a[0]?=some x->b[0]?=some y->rk y<=rk x) (hl:∀x,a[a.size - 1]?=some x->∀y∈b.toList,rk y<=rk x)
  (h:∀r st',Fn rk a b r->Gl st st'->Q r st'):wpS (r6 prog w) A E s (DL a b) Q st:=by
 obtain ⟨b0,hb0,_⟩:=Z7 (a:=b) sb
 obtain ⟨a0,ha0,_⟩:=Z7 (a:=a) sa
 obtain ⟨al,hal,_⟩:=Z7 (a:=a) (i:=a.size - 1) (by lia)
 have hlast:=hl al hal
 have hfirst:∀x∈a.toList,rk b0<=rk x:=fun x hx=>E9 (h0 a0 b0 ha0 hb0) (fM (u:=ua) ha0 x (by simpa using hx))
 have FIRST:∀{out:Array n6}{na nb:Nat},kP rk a b out na nb->nb=1->Fn rk a b (b.extract 0 nb++a.extract 0 na++out.reverse):=fun {out na nb} hm e=>by
  refine hm.first ua ub fun y hy x hx=>?_
  rw[AG e hb0 y hy]
  exact hfirst x (C9 hx)
 have ENDA:∀{out:Array n6}{na nb:Nat},kP rk a b out na nb->na=0->Fn rk a b (a.extract 0 na++b.extract 0 nb++out.reverse):=fun {out na nb} hm e=>hm.done ua ub fun x hx=>by
  rw[e] at hx;simp at hx
 have ENDB:∀{out:Array n6}{na nb:Nat},kP rk a b out na nb->nb=0->Fn rk a b (a.extract 0 na++b.extract 0 nb++out.reverse):=fun {out na nb} hm e=>hm.done ua ub fun x _ y hy=>by
  rw[e] at hy;simp at hy
 refine i7 (fO (Q9 ⟨rfl,?_⟩))
 refine i7 (M5 hal ?_)
 have m0:kP rk a b #[al] (a.size - 1) b.size:=by
  have z:kP rk a b #[] a.size b.size:=⟨by
   show ([]:List n6).Perm _
   rw[R9 (by simp),R9 (by simp)]
   exact bZ _,bL,fun x _ y hy=>by simp at hy⟩
  exact z.pushA ua (by lia) hal fun y hy=>hlast y (C9 hy)
 dsimp only
 by_cases e1:(a.size - 1 == 0)=true
 ·rw[if_pos e1]
  exact j8 (h _ _ (ENDA m0 (by simpa using e1)) (Gl.refl st))
 rw[if_neg e1]
 by_cases e2:(b.size == 1)=true
 ·rw[if_pos e2]
  exact j8 (h _ _ (FIRST m0 (by simpa using e2)) (Gl.refl st))
 rw[if_neg e2]
 have sa2:0<a.size - 1:=by
  have:¬ a.size - 1=0:=by simpa using e1
  lia
 have sb2:1<b.size:=by
  have:¬ b.size=1:=by simpa using e2
  lia
 refine i7 (Y4 ?_)
 refine i7 (X0 (G5 (I:=fun x c st'=>Gl st st'/\∃na nb out mg,c=(none,na,nb,out,mg)/\kP rk a b out na nb/\0<na/\1<nb/\na<=a.size/\nb<=b.size/\na+nb+1+x<=a.size+b.size)
  (Q:=fun c st'=>Gl st st'/\∃r,c.1=some r/\Fn rk a b r) ?_ ?_ ⟨Gl.refl st,_,_,_,_,rfl,m0,sa2,sb2,by lia,by lia,by lia⟩) ?_)
 rotate_left
 ·rintro c st' ⟨_,na,nb,out,mg,rfl,_,z1,z2,z4,z5,z3⟩
  lia
 ·rintro ⟨c1,c2⟩ st' ⟨gl,r,hr,hf⟩
  dsimp only at hr
  subst hr
  exact j8 (h r st' hf gl)
 rintro x c st1 _ hx ⟨gl,na,nb,out,mg,rfl,hm,za,zb,zas,zbs,zp⟩
 have hk1:kindOf st1=κ:=gl.1.trans hk
 dsimp only
 refine i7 (X0 (G5 (I:=fun y c st'=>st'=st1/\∃na nb out ac bc,c=(none,na,nb,out,ac,bc)/\kP rk a b out na nb/\0<na/\1<nb/\na<=a.size/\nb<=b.size/\na+nb+1+x+y<=a.size+b.size)
  (Q:=fun c st'=>st'=st1/\((∃r,c.1=some r/\Fn rk a b r) ∨ ∃na nb out ac bc,c=(none,na,nb,out,ac,bc)/\kP rk a b out na nb/\0<na/\1<nb/\na<=a.size/\nb<=b.size/\na+nb+1+x+1<=a.size+b.size)) ?_ ?_ ⟨rfl,na,nb,out,0,0,rfl,hm,za,zb,zas,zbs,by lia⟩) ?_)
 ·rintro y c st' _ hy ⟨rfl,na,nb,out,ac,bc,rfl,hm,za,zb,zas,zbs,zp⟩
  obtain ⟨bx,hbx,mbx⟩:=Z7 (a:=b) (i:=nb - 1) (by lia)
  obtain ⟨ax,hax,max⟩:=Z7 (a:=a) (i:=na - 1) (by lia)
  dsimp only
  refine i7 (M5 hbx (i7 (M5 hax (i7 (oY hA hk1 (mb bx mbx) (ma ax max) ?_)))))
  by_cases hlt:rk bx<rk ax
  ·rw[decide_eq_true hlt]
   dsimp only
   rw[if_pos rfl]
   refine i7 (M5 hax ?_)
   have hm':=hm.pushA ua (i:=na - 1) (by lia) hax fun y hy=>E9 (uw (u:=ub) (n:=nb) (by lia) hbx y hy) (aE hlt)
   by_cases e3:(na - 1 == 0)=true
   ·rw[if_pos e3]
    exact j8 ⟨rfl,.inl ⟨_,rfl,ENDA hm' (by simpa using e3)⟩⟩
   rw[if_neg e3]
   have e3':na - 1≠0:=by simpa using e3
   split
   ·exact j8 ⟨rfl,.inr ⟨_,_,_,_,_,rfl,hm',by lia,zb,by lia,zbs,by lia⟩⟩
   ·exact j8 ⟨rfl,_,_,_,_,_,rfl,hm',by lia,zb,by lia,zbs,by lia⟩
  ·rw[decide_eq_false hlt]
   dsimp only
   rw[if_neg (by decide)]
   refine i7 (M5 hbx ?_)
   have hm':=hm.pushB ub (i:=nb - 1) (by lia) hbx fun y hy=>E9 (uw (u:=ua) (n:=na) (by lia) hax y hy) (Int.not_lt.mp hlt)
   by_cases e3:(nb - 1 == 1)=true
   ·rw[if_pos e3]
    exact j8 ⟨rfl,.inl ⟨_,rfl,FIRST hm' (by simpa using e3)⟩⟩
   rw[if_neg e3]
   have e3':nb - 1≠1:=by simpa using e3
   split
   ·exact j8 ⟨rfl,.inr ⟨_,_,_,_,_,rfl,hm',za,by lia,zas,by lia,by lia⟩⟩
   ·exact j8 ⟨rfl,_,_,_,_,_,rfl,hm',za,by lia,zas,by lia,by lia⟩
 ·rintro c st' ⟨rfl,na,nb,out,ac,bc,rfl,hm,z1,z2,z4,z5,z3⟩
  lia
 rintro ⟨c1,c2⟩ st' ⟨rfl,(⟨r,hr,hf⟩|⟨na,nb,out,ac,bc,e,hm,za,zb,zas,zbs,zp⟩)⟩
 ·dsimp only at hr
  subst hr
  exact j8 ⟨gl,r,rfl,hf⟩
 cases e
 dsimp only
 refine i7 (fO (Q9 ⟨rfl,?_⟩))
 refine i7 (X0 (G5 (I:=fun y c st'=>Gl st st'/\∃na nb out mg ac bc,c=(none,na,nb,out,mg,ac,bc)/\kP rk a b out na nb/\0<na/\1<nb/\(na<=a.size/\nb<=b.size)/\na+nb+1+x+1+y<=a.size+b.size)
  (Q:=fun c st'=>Gl st st'/\((∃r,c.1=some r/\Fn rk a b r) ∨ ∃na nb out mg ac bc,c=(none,na,nb,out,mg,ac,bc)/\kP rk a b out na nb/\0<na/\1<nb/\(na<=a.size/\nb<=b.size)/\na+nb+1+x+1<=a.size+b.size)) ?_ ?_ ⟨gl,na,nb,out,_,ac,bc,rfl,hm,za,zb,⟨zas,zbs⟩,by lia⟩) ?_)
 ·rintro y c st2 _ hy ⟨gl2,na,nb,out,mg,ac,bc,rfl,hm,za,zb,⟨zas,zbs⟩,zp⟩
  obtain ⟨bx,hbx,mbx⟩:=Z7 (a:=b) (i:=nb - 1) (by lia)
  dsimp only
  apply JI (C:=fun m n:Nat=>True)
  ·intro T
   by_cases hmg:mg<=1
   ·rw[if_neg (by lia)]
    obtain ⟨q,_⟩:∃q:Nat,q=0:=⟨0,rfl⟩
    generalize mg=m
    exact T m q trivial
   ·rw[if_pos (by lia)]
    exact T _ 0 trivial
  intro mg _ _
  refine i7 (G8 ?_)
  refine i7 (M5 hbx ?_)
  refine i7 (Lp hA (gl2.1.trans hk) (mb bx mbx) ma ua (n:=na) (by lia) (by lia) fun k hk1' hk2 hk3=>?_)
  dsimp only
  have hca:∀y∈a.toList.take k,rk y<=rk bx:=fun y hy=>by
   have:=hk2 y hy
   unfold bq at this
   rw[if_neg (by decide),Y6,decide_eq_false_iff_not] at this
   lia
  have hm1:=hm.extA ua k hk1' fun z hz y hy=>by
   have:=hk3 z hz
   unfold bq at this
   rw[if_neg (by decide),ni,decide_eq_true_iff] at this
   have:=uw (u:=ub) (n:=nb) (by lia) hbx y hy
   lia
  have hk00:k=na->∀y∈a.toList.take na,rk y<=rk bx:=fun e=>by subst e;exact hca
  generalize hkd:na - k=kd
  apply JI (C:=fun (o:Array n6) n=>kP rk a b o n nb/\(0<n/\n<=a.size)/\n+nb+1+x+1+y<=a.size+b.size/\∀y∈a.toList.take n,rk y<=rk bx)
  ·intro T
   by_cases hk0:k=na
   ·rw[if_neg (by lia)]
    have hc:kP rk a b out na nb/\(0<na/\na<=a.size)/\na+nb+1+x+1+y<=a.size+b.size/\∀y∈a.toList.take na,rk y<=rk bx:=⟨hm,⟨za,zas⟩,by lia,hk00 hk0⟩
    revert hc
    generalize na=n
    generalize out=o
    intro hc
    exact T o n hc
   rw[if_pos (by lia)]
   by_cases e5:(k == 0)=true
   ·rw[if_pos e5]
    exact j8 ⟨⟨gl2.1,gl2.2.1,gl2.2.2.1,gl2.2.2.2⟩,.inl ⟨_,rfl,ENDA hm1 (by simpa using e5)⟩⟩
   rw[if_neg e5]
   have e5':k≠0:=by simpa using e5
   exact T _ _ ⟨hm1,⟨by lia,by lia⟩,by lia,hca⟩
  intro o n ⟨hm,⟨za,zas⟩,zp,hca⟩
  obtain ⟨ax,hax,max⟩:=Z7 (a:=a) (i:=n - 1) (by lia)
  refine i7 (M5 hbx ?_)
  have hm2:=hm.pushB ub (i:=nb - 1) (by lia) hbx hca
  by_cases e6:(nb - 1 == 1)=true
  ·rw[if_pos e6]
   exact j8 ⟨⟨gl2.1,gl2.2.1,gl2.2.2.1,gl2.2.2.2⟩,.inl ⟨_,rfl,FIRST hm2 (by simpa using e6)⟩⟩
  rw[if_neg e6]
  have e6':nb - 1≠1:=by simpa using e6
  generalize o.push bx=o2 at hm2 ⊢
  generalize hl:nb - 1=l at hm2 e6' ⊢
  refine i7 (M5 hax ?_)
  refine i7 (Lp hA (gl2.1.trans hk) (ma ax max) mb ub (n:=l) (by lia) (by lia) fun j hj1 hj2 hj3=>?_)
  dsimp only
  have hcb:∀y∈b.toList.take j,rk y<=rk ax:=fun y hy=>by
   have:=hj2 y hy
   unfold bq at this
   rw[if_pos rfl,decide_eq_true_iff] at this
   lia
  have hm3:=hm2.extB ub j hj1 fun z hz y hy=>by
   have:=hj3 z hz
   unfold bq at this
   rw[if_pos rfl,decide_eq_false_iff_not] at this
   have:=uw (u:=ua) (n:=n) (by lia) hax y hy
   lia
  have hj00:j=l->∀y∈b.toList.take l,rk y<=rk ax:=fun e=>by subst e;exact hcb
  generalize hjd:l - j=jd
  apply JI (C:=fun (o:Array n6) m=>kP rk a b o n m/\(1<m/\m<=b.size)/\n+m+1+1+x+1+y<=a.size+b.size/\∀y∈b.toList.take m,rk y<=rk ax)
  ·intro T
   by_cases hj0:j=l
   ·rw[if_neg (by lia)]
    have hc:kP rk a b o2 n l/\(1<l/\l<=b.size)/\n+l+1+1+x+1+y<=a.size+b.size/\∀y∈b.toList.take l,rk y<=rk ax:=⟨hm2,⟨by lia,by lia⟩,by lia,hj00 hj0⟩
    revert hc
    generalize l=m
    generalize o2=o
    intro hc
    exact T o m hc
   rw[if_pos (by lia)]
   by_cases e7:(j == 1)=true
   ·rw[if_pos e7]
    exact j8 ⟨⟨gl2.1,gl2.2.1,gl2.2.2.1,gl2.2.2.2⟩,.inl ⟨_,rfl,FIRST hm3 (by simpa using e7)⟩⟩
   rw[if_neg e7]
   by_cases e9:(j == 0)=true
   ·rw[if_pos e9]
    exact j8 ⟨⟨gl2.1,gl2.2.1,gl2.2.2.1,gl2.2.2.2⟩,.inl ⟨_,rfl,ENDB hm3 (by simpa using e9)⟩⟩
   rw[if_neg e9]
   have e7':j≠1:=by simpa using e7
   have e9':j≠0:=by simpa using e9
   exact T _ _ ⟨hm3,⟨by lia,by lia⟩,by lia,hcb⟩
  intro o m ⟨hm,⟨zm,zms⟩,zp,hcb⟩
  refine i7 (M5 hax ?_)
  have hm4:=hm.pushA ua (i:=n - 1) (by lia) hax hcb
  by_cases e8:(n - 1 == 0)=true
  ·rw[if_pos e8]
   exact j8 ⟨⟨gl2.1,gl2.2.1,gl2.2.2.1,gl2.2.2.2⟩,.inl ⟨_,rfl,ENDA hm4 (by simpa using e8)⟩⟩
  rw[if_neg e8]
  have e8':n - 1≠0:=by simpa using e8
  split
  ·exact j8 ⟨⟨gl2.1,gl2.2.1,gl2.2.2.1,gl2.2.2.2⟩,.inr ⟨_,_,_,_,_,_,rfl,hm4,by lia,by lia,⟨by lia,by lia⟩,by lia⟩⟩
  ·exact j8 ⟨⟨gl2.1,gl2.2.1,gl2.2.2.1,gl2.2.2.2⟩,_,_,_,_,_,_,rfl,hm4,by lia,by lia,⟨by lia,by lia⟩,by lia⟩
 ·rintro c st' ⟨_,na,nb,out,mg,ac,bc,rfl,hm,z1,z2,z4,z3⟩
  lia
 ·rintro ⟨c1,c2⟩ st2 ⟨gl2,(⟨r,hr,hf⟩|⟨na,nb,out,mg,ac,bc,e,hm,za,zb,⟨zas,zbs⟩,zp⟩)⟩
  ·dsimp only at hr
   subst hr
   exact j8 ⟨gl2,r,rfl,hf⟩
  ·cases e
   dsimp only
   refine i7 (G8 ?_)
   exact j8 ⟨⟨gl2.1,gl2.2.1,gl2.2.2.1,gl2.2.2.2⟩,_,_,_,_,rfl,hm,za,zb,zas,zbs,by lia⟩
end
theorem Gz:∀(ms:List n6) (arr:Array n6) (sa k:Nat),sa+k+ms.length<=arr.size ->
  ((ms.zipIdx k).foldl (fun a (p:n6 × Nat)=>a.setIfInBounds (sa+p.2) p.1) arr).toList=arr.toList.take (sa+k)++ms++arr.toList.drop (sa+k+ms.length)
 | [],arr,sa,k,_=>by simp
 | m::ms,arr,sa,k,h=>by
  rw[rf,List.foldl_cons]
  rw[m9] at h
  have ih:=Gz ms (arr.setIfInBounds (sa+k) m) sa (k+1) (by rw[Array.size_setIfInBounds];lia)
  rw[ih,Array.toList_setIfInBounds]
  have hl:sa+k<arr.toList.length:=by rw[D9];lia
  rw[m9,show sa+(k+1)=sa+k+1 by lia]
  generalize sa+k=p at hl
  generalize arr.toList=L at hl
  have e:L.set p m=(L.take p++[m])++L.drop (p+1):=by
   rw[List.set_eq_take_append_cons_drop,if_pos hl];simp
  have ln:(L.take p++[m]).length=p+1:=by rw[w9,v7];simp;lia
  rw[e,List.take_left' ln,List.drop_append,R9 (by lia),bW,ln,show p+1+ms.length - (p+1)=ms.length by lia,kL,Y5 (L.take p),show p+1+ms.length=p+(ms.length+1) by lia]
  simp
section
variable {prog:j7}{w:u9}{A:A8}{E:b9->d9->Prop}{s:d9}{rk:n6->Int}{M:n6->Prop}{κ:dZ}
theorem Fk {σ:Type}{st st2:σ}{MM:lQ}{Q:PUnit->σ->Prop} (h:Q ⟨⟩ st2):wpS MM A E s (set st2:StateT σ Sem PUnit) Q st:=by
 unfold wpS
 exact d6 ⟨rfl,h⟩
theorem Lo {left:Bool}{key:n6}{a:Array n6}{b n hint:Nat}{st:G9}{Q:Option Nat->G9->Prop} (hA:xt prog w A s rk M κ) (hk:kindOf st=κ) (mk:M key) (ma:∀x∈a.toList,M x) (u:Up rk ((a.toList.drop b).take n)) (hh:hint<n) (hs:b+n<=a.size)
  (h:∀k,k<=n->(∀x∈(a.toList.drop b).take k,bq rk left key x=true)->(∀x∈((a.toList.drop b).take n).drop k,bq rk left key x=false)->Q (some k) st):wpS (r6 prog w) A E s (oI left key a b n hint) Q st:=by
 have hg:∀j,j<n->a[b+j]?=some (a.getD (b+j) key):=fun j hj=>by
  rw[O4 (by lia)]
  simp[Ck,show b+j<a.size by lia]
 have hL:∀j,j<n->((a.toList.drop b).take n)[j]?=some (a.getD (b+j) key):=fun j hj=>by
  rw[Q0,if_pos hj,N9]
  exact O2 (hg j hj)
 refine mL (xs:=fun j=>a.getD (b+j) key) hA hk mk hh (fun j hj=>⟨hg j hj,?_⟩) (fun j1 j2 h12 h2 hb=>?_) (fun k h1 h2 h3=>h k (by lia) (fun x hx=>?_) (fun x hx=>?_))
 ·exact ma _ (m8 (O2 (hg j hj)))
 ·have hle:=u.le (hL j1 (by lia)) (hL j2 h2) (by lia)
  unfold bq at hb ⊢
  cases left with
  | true =>
   rw[if_pos rfl] at hb ⊢
   have:=of_decide_eq_true hb
   exact decide_eq_true (by lia)
  | false =>
   rw[if_neg (by decide)] at hb ⊢
   rw[Y6,decide_eq_false_iff_not] at hb ⊢
   lia
 ·obtain ⟨j,hj,hx'⟩:=pq hx
  have:=h2 j hj
  have e:=hg j (by lia)
  rw[hx'] at e
  injection e with e
  show bq rk left key x=true
  rw[e];exact this
 ·obtain ⟨j,hj⟩:=List.mem_iff_getElem?.mp hx
  rw[N9] at hj
  have hlt:k+j<n:=by
   have:=(List.getElem?_eq_some_iff.mp hj).1
   rw[v7] at this
   lia
  have:=h3 (k+j) (by lia) hlt
  rw[hL (k+j) hlt] at hj
  injection hj with hj
  show bq rk left key x=false
  rw[<- hj];exact this
theorem yr {arr:Array n6}{n1 n2 p1 p2 mg:Nat}{Q:Bool->G9->Prop} (hA:xt prog w A s rk M κ) (m:∀x∈arr.toList,M x) (h1:0<n1) (h2:0<n2) (hN:n1+n2=arr.size) (u1:Up rk (arr.toList.take n1)) (u2:Up rk (arr.toList.drop n1))
  (h:∀(arr':Array n6) (mg':Nat),arr'.toList.Perm arr.toList->Up rk arr'.toList->Q true (t9 κ arr' #[(0,n1+n2,p1)] mg' none)):wpS (r6 prog w) A E s (mergeAt' 0) Q (t9 κ arr #[(0,n1,p1),(n1,n2,p2)] mg none):=by
 have hlen:arr.toList.length=n1+n2:=by rw[D9];lia
 obtain ⟨b0,hb0,mb0⟩:=Z7 (a:=arr) (i:=n1) (by lia)
 obtain ⟨al,hal,mal⟩:=Z7 (a:=arr) (i:=n1 - 1) (by lia)
 refine i7 (Y4 ?_)
 refine i7 (Fk ?_)
 have hpend:(((#[(0,n1,p1),(n1,n2,p2)]:Array (Nat × Nat × Nat)).setIfInBounds 0 (0,n1+n2,p1)).eraseIdxIfInBounds (0+1))=#[(0,n1+n2,p1)]:=by first|rfl|simp[Array.eraseIdxIfInBounds]
 dsimp only
 rw[hpend]
 refine i7 (M5 hb0 ?_)
 have u1':Up rk ((arr.toList.drop 0).take n1):=by rw[P2];exact u1
 refine i7 (Lo (b:=0) (n:=n1) (hint:=0) hA rfl (m b0 mb0) m u1' h1 (by lia) fun k hk hk2 hk3=>?_)
 rw[P2] at hk2 hk3
 have low:∀x∈arr.toList.take k,rk x<=rk b0:=fun x hx=>by
  have:=hk2 x hx
  unfold bq at this
  rw[if_neg (by decide),Y6,decide_eq_false_iff_not] at this
  lia
 have upr:∀x∈(arr.toList.take n1).drop k,rk b0<rk x:=fun x hx=>by
  have:=hk3 x hx
  unfold bq at this
  rw[if_neg (by decide),ni,decide_eq_true_iff] at this
  exact this
 have ball:∀y∈arr.toList.drop n1,rk b0<=rk y:=fun y hy=>by
  obtain ⟨j,hj⟩:=List.mem_iff_getElem?.mp hy
  exact u2.le (i:=0) (by rw[N9];exact O2 hb0) hj (v8 _)
 have aall:∀x∈arr.toList.take n1,rk x<=rk al:=fun x hx=>by
  obtain ⟨j,hj⟩:=List.mem_iff_getElem?.mp hx
  have hjl:=(List.getElem?_eq_some_iff.mp hj).1
  rw[v7] at hjl
  exact u1.le hj (j:=n1 - 1) (by rw[Q0,if_pos (by lia)];exact O2 hal) (by lia)
 have whole:∀c:(∀x∈arr.toList.take n1,∀y∈arr.toList.drop n1,rk x<=rk y),Up rk arr.toList:=fun c=>by
  have:=u1.app u2 c
  rw[T7] at this
  exact this
 simp only[K5]
 by_cases e1:(n1 - k == 0)=true
 ·rw[if_pos e1]
  have e1':n1 - k=0:=by simpa using e1
  have ek:k=n1:=by lia
  refine j8 (h arr mg (bZ _) (whole fun x hx y hy=>?_))
  rw[ek] at low
  exact E9 (low x hx) (ball y hy)
 rw[if_neg e1]
 have e1':n1 - k≠0:=by simpa using e1
 refine i7 (M5 (x:=al) (by rw[<- hal];congr 1;lia) ?_)
 have u2':Up rk ((arr.toList.drop n1).take n2):=u2.take n2
 refine i7 (Lo (b:=n1) (n:=n2) (hint:=n2 - 1) hA rfl (m al mal) m u2' (by lia) (by lia) fun j hj hj2 hj3=>?_)
 have blow:∀y∈(arr.toList.drop n1).take j,rk y<rk al:=fun y hy=>by
  have:=hj2 y hy
  unfold bq at this
  rw[if_pos rfl,decide_eq_true_iff] at this
  exact this
 have bhi:∀y∈(arr.toList.drop n1).drop j,rk al<=rk y:=fun y hy=>by
  have:=hj3 y (by rw[G6 (by rw[K0];lia)];exact hy)
  unfold bq at this
  rw[if_pos rfl,decide_eq_false_iff_not] at this
  lia
 dsimp only
 by_cases e2:(j == 0)=true
 ·rw[if_pos e2]
  have e2':j=0:=by simpa using e2
  refine j8 (h arr mg (bZ _) (whole fun x hx y hy=>?_))
  rw[e2',P2] at bhi
  exact E9 (aall x hx) (bhi y hy)
 rw[if_neg e2]
 have e2':j≠0:=by simpa using e2
 have eX:(arr.extract k n1).toList=(arr.toList.take n1).drop k:=oK _ _ _
 have eY:(arr.extract n1 (n1+j)).toList=(arr.toList.drop n1).take j:=by rw[jo,show n1+j - n1=j by lia]
 have sX:(arr.extract k n1).size=n1 - k:=by rw[Cj];lia
 have sY:(arr.extract n1 (n1+j)).size=j:=by rw[Cj];lia
 have FIN:∀(r:Array n6) (st':G9),Fn rk (arr.extract k n1) (arr.extract n1 (n1+j)) r->Gl (t9 κ arr #[(0,n1+n2,p1)] mg none) st'->∃(arr':Array n6),(EJ (fun a (x:n6 × Nat)=>a.setIfInBounds (k+x.2) x.1) (dF st') r.toList.zipIdx)=arr'/\arr'.toList.Perm arr.toList/\Up rk arr'.toList:=fun r st' hf gl=>by
  obtain ⟨hp,hu⟩:=hf
  rw[eX,eY] at hp
  have hrl:r.toList.length=n1 - k+j:=by rw[hp.length_eq,w9,K0,v7,v7,K0];lia
  have hw:=Gz r.toList (dF st') k 0 (by rw[gl.2.1];show k+0+r.toList.length<=arr.size;lia)
  have ea:(dF st').toList=arr.toList:=by rw[gl.2.1]
  rw[ea,hrl,Nat.add_zero,show k+(n1 - k+j)=n1+j by lia] at hw
  refine ⟨_,rfl,?_⟩
  have hw':(EJ (fun a (x:n6 × Nat)=>a.setIfInBounds (k+x.2) x.1) (dF st') r.toList.zipIdx).toList=arr.toList.take k++r.toList++arr.toList.drop (n1+j):=by
   rw[<- hw]
  rw[hw']
  have eL:arr.toList=arr.toList.take k++((arr.toList.take n1).drop k++(arr.toList.drop n1).take j)++arr.toList.drop (n1+j):=by
   have q1:arr.toList.take n1=arr.toList.take k++(arr.toList.take n1).drop k:=by
    have:=(T7 k (arr.toList.take n1)).symm
    rw[uS,jR hk] at this
    exact this
   have q2:arr.toList.drop n1=(arr.toList.drop n1).take j++arr.toList.drop (n1+j):=by
    have:=(T7 j (arr.toList.drop n1)).symm
    rw[kL] at this
    exact this
   conv=>lhs;rw[<- T7 n1 arr.toList,q1,q2]
   simp only[Y5]
  constructor
  ·conv=>rhs;rw[eL]
   exact ((hp.append_left _).append_right _)
  ·have memr:∀x∈r.toList,x∈(arr.toList.take n1).drop k ∨ x∈(arr.toList.drop n1).take j:=fun x hx=>List.mem_append.mp (hp.mem_iff.mp hx)
   have hd:arr.toList.drop (n1+j)=(arr.toList.drop n1).drop j:=by rw[kL]
   have tk:Up rk (arr.toList.take k):=by
    have:=u1.take k
    rw[uS,jR hk] at this
    exact this
   refine Up.app (Up.app tk hu fun x hx y hy=>?_) (by rw[hd];exact u2.drop j) fun x hx y hy=>?_
   ·rcases memr y hy with z|z
    ·exact E9 (low x hx) (aE (upr y z))
    ·exact E9 (low x hx) (ball y (C9 z))
   ·rw[hd] at hy
    rcases List.mem_append.mp hx with z|z
    ·exact E9 (low x z) (ball y (N7 hy))
    ·rcases memr x z with z|z
     ·exact E9 (aall x (N7 z)) (bhi y hy)
     ·exact E9 (aE (blow x z)) (bhi y hy)
 have mX:∀x∈(arr.extract k n1).toList,M x:=fun x hx=>by rw[eX] at hx;exact m x (C9 (N7 hx))
 have mY:∀x∈(arr.extract n1 (n1+j)).toList,M x:=fun x hx=>by rw[eY] at hx;exact m x (N7 (C9 hx))
 have uX:Up rk (arr.extract k n1).toList:=by rw[eX];exact u1.drop k
 have uY:Up rk (arr.extract n1 (n1+j)).toList:=by rw[eY];exact u2.take j
 have h0:∀x y,(arr.extract k n1)[0]?=some x->(arr.extract n1 (n1+j))[0]?=some y->rk y<=rk x:=fun x y hx hy=>by
  have hx':x∈(arr.extract k n1).toList:=m8 (O2 hx)
  rw[eX] at hx'
  have hy':=O2 hy
  rw[eY,Q0,if_pos (by lia),N9] at hy'
  have:=O2 hb0
  rw[show n1+0=n1 by lia,this] at hy'
  injection hy' with hy'
  rw[<- hy']
  exact aE (upr x hx')
 have hl:∀x,(arr.extract k n1)[(arr.extract k n1).size - 1]?=some x->∀y∈(arr.extract n1 (n1+j)).toList,rk y<=rk x:=fun x hx y hy=>by
  rw[eY] at hy
  have hx':=O2 hx
  rw[eX,N9,sX,Q0,if_pos (by lia),show k+(n1 - k - 1)=n1 - 1 by lia,O2 hal] at hx'
  injection hx' with hx'
  rw[<- hx']
  exact aE (blow y hy)
 have JP:∀(r:Array n6) (st':G9),Fn rk (arr.extract k n1) (arr.extract n1 (n1+j)) r->Gl (t9 κ arr #[(0,n1+n2,p1)] mg none) st'->Q true (t9 (kindOf st') (EJ (fun a (x:n6 × Nat)=>a.setIfInBounds (k+x.2) x.1) (dF st') r.toList.zipIdx) (Z2 st') (gallopOf st') (dX st')):=fun r st' hf gl=>by
  obtain ⟨arr',e,hp,hu⟩:=FIN r st' hf gl
  rw[e,gl.1,gl.2.2.1,gl.2.2.2]
  exact h arr' _ hp hu
 have JF:∀(st':G9),Gl (t9 κ arr #[(0,n1+n2,p1)] mg none) st'->(dX st').isNone=true:=fun st' gl=>by rw[gl.2.2.2];rfl
 split
 ·refine i7 (yp hA rfl mX mY uX uY (by rw[sX];lia) (by rw[sY];lia) h0 hl fun r st' hf gl=>?_)
  refine i7 (G8 (i7 (Y4 (j8 ?_))))
  have:=JP r st' hf gl
  rw[<- JF st' gl] at this
  exact this
 ·refine i7 (yq hA rfl mX mY uX uY (by rw[sX];lia) (by rw[sY];lia) h0 hl fun r st' hf gl=>?_)
  refine i7 (G8 (i7 (Y4 (j8 ?_))))
  have:=JP r st' hf gl
  rw[<- JF st' gl] at this
  exact this
end
noncomputable def Kv (rk:n6->Int) (arr:Array n6) (i:Nat):Int:=rk ((arr[i]?).getD (B5,B5))
variable {a:Array n6}
theorem Kv.congr {b:Array n6}(h:a[i]?=b[j]?):Kv rk a i=Kv rk b j:=by unfold Kv;rw[h]
noncomputable def mV (rk:n6->Int) (arr:Array n6) (lo n:Nat):Prop:=∀i j,lo<=i->i<=j->j<lo+n->Kv rk arr i<=Kv rk arr j
noncomputable def xo (rk:n6->Int) (arr:Array n6) (lo n:Nat):Prop:=∀i j,lo<=i->i<=j->j<lo+n->Kv rk arr j<=Kv rk arr i
structure cX (lo:Nat) (a b:Array n6):Prop where
 perm:b.toList.Perm a.toList
 low:∀i,i<lo->b[i]?=a[i]?
theorem cX.refl (lo:Nat) (a:Array n6):cX lo a a:=⟨bZ _,fun _ _=>rfl⟩
theorem cX.trans {lo:Nat}{a b c:Array n6} (h:cX lo a b) (k:cX lo b c):cX lo a c:=⟨k.perm.trans h.perm,fun i hi=>(k.low i hi).trans (h.low i hi)⟩
theorem cX.size {lo:Nat}{a b:Array n6} (h:cX lo a b):b.size=a.size:=by have:=h.perm.length_eq;simpa using this
variable {lo:Nat}
theorem cX.mirror (hi:lo<=i) (hj:j<=a.size):cX lo a (N0 a i j ((j - i) / 2)):=
 ⟨Array.perm_iff_toList_perm.mp (mirror_perm a i j _),fun k hk=>by rw[Jv hj,if_neg (by lia)]⟩
theorem Kv.mirror (hj:j<=a.size) (k:Nat):Kv rk (N0 a i j ((j - i) / 2)) k=if i<=k/\k<j then Kv rk a (i+j - 1 - k) else Kv rk a k:=by
 have e:=Jv (i:=i) hj k
 by_cases h1:i<=k/\k<j
 ·rw[if_pos h1] at e ⊢;exact Kv.congr e
 ·rw[if_neg h1] at e ⊢;exact Kv.congr e
theorem gu (hj:j<=a.size) (heq:∀k,i<=k->k<j->Kv rk a k=Kv rk a (j - 1)) (k:Nat):Kv rk (N0 a i j ((j - i) / 2)) k=Kv rk a k:=by
 rw[Kv.mirror hj]
 split
 ·rw[heq _ (by lia) (by lia),heq k (by lia) (by lia)]
 ·rfl
theorem xo.more' {x:Nat} (h:xo rk a lo x) (hlt:Kv rk a (lo+x)<=Kv rk a (lo+x - 1)):xo rk a lo (x+1):=fun i j hi hij hj=>by
 by_cases hjx:j<lo+x
 ·exact h i j hi hij hjx
 ·have:j=lo+x:=by lia
  subst this
  by_cases hix:i=lo+x
  ·subst hix;exact fg _
  ·exact E9 hlt (h i (lo+x - 1) hi (by lia) (by lia))
theorem xo.more {x:Nat} (h:xo rk a lo x) (hlt:Kv rk a (lo+x)<Kv rk a (lo+x - 1)):xo rk a lo (x+1):=h.more' (aE hlt)
section
variable {prog:j7}{w:u9}{A:A8}{E:b9->d9->Prop}{s:d9}{rk:n6->Int}{M:n6->Prop}{κ:dZ}{pd:Array (Nat × Nat × Nat)}{mg:Nat}
variable {arr:Array n6}
theorem cy {i j:Nat}{Q:Option Bool->G9->Prop} (hA:xt prog w A s rk M κ) (m:∀x∈arr.toList,M x) (hi:i<arr.size) (hj:j<arr.size) (h:Q (some (decide (Kv rk arr i<Kv rk arr j))) (t9 κ arr pd mg none)):wpS (r6 prog w) A E s (ltAt' i j) Q (t9 κ arr pd mg none):=by
 obtain ⟨x,hx,mx⟩:=Z7 (a:=arr) hi
 obtain ⟨y,hy,my⟩:=Z7 (a:=arr) hj
 have e1:Kv rk arr i=rk x:=by unfold Kv;rw[hx];rfl
 have e2:Kv rk arr j=rk y:=by unfold Kv;rw[hy];rfl
 rw[e1,e2] at h
 rw[ltAt'_eq]
 refine i7 (Y4 ?_)
 exact i7 (M5 hx (i7 (M5 hy (oY hA rfl (m x mx) (m y my) h))))
theorem js {st:G9}{lo a nrem:Nat}{f:Nat->Option (Option Nat) × Nat->StateT G9 Sem (ForInStep (Option (Option Nat) × Nat))}{Q:Option (Option Nat) × Nat->G9->Prop}
  (hstep:∀(x n:Nat) (R:ForInStep (Option (Option Nat) × Nat)->G9->Prop),1<=n->n<nrem->(Kv rk arr (lo+n)<Kv rk arr (lo+n - 1)->R (.done (none,n)) st)->(¬ Kv rk arr (lo+n)<Kv rk arr (lo+n - 1)->R (.yield (none,n+1)) st)->wpS (r6 prog w) A E s (f x (none,n)) R st)
  (ha:1<=a) (han:a<=nrem) (hs:mV rk arr lo a) (h:∀n,a<=n->n<=nrem->mV rk arr lo n->(n=nrem ∨ Kv rk arr (lo+n)<Kv rk arr (lo+n - 1))->Q (none,n) st):wpS (r6 prog w) A E s (forIn [a:nrem] (none,a) f) Q st:=by
 refine G5 (I:=fun x c st'=>st'=st/\c=(none,x)/\mV rk arr lo x) ?_ ?_ ⟨rfl,rfl,hs⟩
 ·rintro x c st' hax hxn ⟨rfl,rfl,hs'⟩
  refine hstep x x _ (by lia) hxn (fun hlt=>h x hax (by lia) hs' (.inr hlt)) (fun hlt=>⟨rfl,rfl,fun i j hi hij hj=>?_⟩)
  by_cases hjx:j<lo+x
  ·exact hs' i j hi hij hjx
  ·have hj':j=lo+x:=by lia
   subst hj'
   by_cases hi':i=lo+x
   ·subst hi';exact fg _
   ·exact E9 (hs' i (lo+x - 1) hi (by lia) (by lia)) (Int.not_lt.mp hlt)
 ·rintro c st' ⟨rfl,rfl,hs'⟩
  rw[show max a nrem=nrem by lia] at hs' ⊢
  exact h nrem han (i6 _) hs' (.inl rfl)
theorem jq {lo nrem:Nat}{Q:Option Nat->G9->Prop} (hA:xt prog w A s rk M κ) (m:∀x∈arr.toList,M x) (h1:1<=nrem) (hN:lo+nrem<=arr.size)
  (h:∀(arr':Array n6) (n:Nat),1<=n->n<=nrem->cX lo arr arr'->mV rk arr' lo n->Q (some n) (t9 κ arr' pd mg none)):wpS (r6 prog w) A E s (countRun' lo nrem) Q (t9 κ arr pd mg none):=by
 have one:mV rk arr lo 1:=fun i j hi hij hj=>by
  have:i=j:=by lia
  subst this;exact fg _
 refine i7 (js (arr:=arr) (lo:=lo) ?_ (i6 1) h1 one fun n hn1 hn2 hs hend=>?_)
 ·intro x n R hn hnn r1 r2
  dsimp only
  refine i7 (cy hA m (by lia) (by lia) ?_)
  by_cases hlt:Kv rk arr (lo+n)<Kv rk arr (lo+n - 1)
  ·rw[decide_eq_true hlt];exact j8 (r1 hlt)
  ·rw[decide_eq_false hlt];exact j8 (r2 hlt)
 dsimp only
 by_cases e1:(n == nrem)=true
 ·rw[if_pos e1]
  exact j8 (h arr n hn1 hn2 (cX.refl lo arr) hs)
 rw[if_neg e1]
 have e1':n≠nrem:=by simpa using e1
 have hlt:=hend.resolve_left e1'
 by_cases hn:n > 1
 ·rw[if_pos hn]
  refine i7 (cy hA m (by lia) (by lia) ?_)
  by_cases hrose:Kv rk arr lo<Kv rk arr (lo+n - 1)
  ·rw[decide_eq_true hrose]
   exact j8 (h arr n hn1 hn2 (cX.refl lo arr) hs)
  rw[decide_eq_false hrose]
  dsimp only
  rw[if_neg (by decide)]
  refine i7 (G8 ?_)
  have alleq:∀k,lo<=k->k<lo+n->Kv rk arr k=Kv rk arr (lo+n - 1):=fun k hk1 hk2=>by
   have a1:=hs lo k (i6 _) hk1 hk2
   have a2:=hs k (lo+n - 1) hk1 (by lia) (by lia)
   lia
  have eqv:=gu (rk:=rk) (a:=arr) (i:=lo) (j:=lo+n) (by lia) alleq
  have k1:cX lo arr (N0 arr lo (lo+n) ((lo+n - lo) / 2)):=cX.mirror (i6 _) (by lia)
  have d1:xo rk (N0 arr lo (lo+n) ((lo+n - lo) / 2)) lo (n+1):=by
   refine xo.more (fun i j hi hij hj=>?_) (by rw[eqv,eqv];exact hlt)
   rw[eqv,eqv,alleq i hi (by lia),alleq j (by lia) (by lia)]
   exact fg _
  show wpS _ _ _ _ _ _ (t9 κ (N0 arr lo (lo+n) ((lo+n - lo) / 2)) pd mg none)
  generalize N0 arr lo (lo+n) ((lo+n - lo) / 2)=arr1 at k1 d1
  refine i7 (fO (Q9 ⟨rfl,?_⟩))
  refine i7 (X0 (G5 (I:=fun x c st'=>∃arr2 neq,c=(none,x,neq)/\st'=t9 κ arr2 pd mg none/\cX lo arr arr2/\xo rk arr2 lo x/\neq+1<=x/\(∀i,lo+x - (neq+1)<=i->i<lo+x->Kv rk arr2 i=Kv rk arr2 (lo+x - 1)))
   (Q:=fun c st'=>∃arr2 n2 neq,c=(none,n2,neq)/\st'=t9 κ arr2 pd mg none/\cX lo arr arr2/\xo rk arr2 lo n2/\neq+1<=n2/\(∀i,lo+n2 - (neq+1)<=i->i<lo+n2->Kv rk arr2 i=Kv rk arr2 (lo+n2 - 1))/\n+1<=n2/\n2<=nrem) ?_ ?_ ⟨_,0,rfl,rfl,k1,d1,by lia,fun i hi hi2=>by congr 1;lia⟩) ?_)
  ·rintro x c st' hnx hx ⟨arr2,neq,rfl,rfl,k2,d2,q1,q2⟩
   have m2:∀x∈arr2.toList,M x:=fun x hx=>m x (k2.perm.mem_iff.mp hx)
   have z2:=k2.size
   dsimp only
   refine i7 (cy hA m2 (by lia) (by lia) ?_)
   by_cases hlt:Kv rk arr2 (lo+x)<Kv rk arr2 (lo+x - 1)
   ·rw[decide_eq_true hlt]
    dsimp only
    rw[if_pos rfl]
    by_cases hq:neq > 0
    ·rw[if_pos hq]
     refine i7 (G8 (j8 ⟨_,0,rfl,rfl,k2.trans (cX.mirror (by lia) (by lia)),?_,by lia,fun i hi hi2=>by congr 1;lia⟩))
     have eqv:=gu (rk:=rk) (a:=arr2) (i:=lo+x - (neq+1)) (j:=lo+x) (by lia) q2
     intro i j hi hij hj
     show Kv rk (N0 arr2 _ _ _) j<=Kv rk (N0 arr2 _ _ _) i
     rw[eqv,eqv]
     exact d2.more hlt i j hi hij (by lia)
    ·rw[if_neg hq]
     exact j8 ⟨arr2,0,rfl,rfl,k2,fun i j hi hij hj=>d2.more hlt i j hi hij (by lia),by lia,fun i hi hi2=>by congr 1;lia⟩
   ·rw[decide_eq_false hlt]
    dsimp only
    rw[if_neg (by decide)]
    refine i7 (cy hA m2 (by lia) (by lia) ?_)
    by_cases hgt:Kv rk arr2 (lo+x - 1)<Kv rk arr2 (lo+x)
    ·rw[decide_eq_true hgt]
     dsimp only
     rw[if_pos rfl]
     exact j8 ⟨arr2,x,neq,rfl,rfl,k2,d2,q1,q2,hnx,by lia⟩
    ·rw[decide_eq_false hgt]
     dsimp only
     rw[if_neg (by decide)]
     have heq:Kv rk arr2 (lo+x)=Kv rk arr2 (lo+x - 1):=by lia
     refine j8 ⟨arr2,neq+1,rfl,rfl,k2,fun i j hi hij hj=>?_,by lia,fun i hi hi2=>?_⟩
     ·exact d2.more' (by lia) i j hi hij (by lia)
     ·rw[show lo+(x+1) - 1=lo+x by lia,heq]
      by_cases hix:i=lo+x
      ·rw[hix,heq]
      ·exact q2 i (by lia) (by lia)
  ·rintro c st' ⟨arr2,neq,rfl,rfl,k2,d2,q1,q2⟩
   rw[show max (n+1) nrem=nrem by lia] at d2 q1 q2 ⊢
   exact ⟨arr2,nrem,neq,rfl,rfl,k2,d2,q1,q2,by lia,i6 _⟩
  ·rintro c st' ⟨arr2,n2,neq,rfl,rfl,k2,d2,q1,q2,hn2a,hn2b⟩
   have z2:=k2.size
   dsimp only
   by_cases hq:neq > 0
   ·rw[if_pos hq]
    refine i7 (G8 ?_)
    have eqv:=gu (rk:=rk) (a:=arr2) (i:=lo+n2 - (neq+1)) (j:=lo+n2) (by lia) q2
    have k4:cX lo arr (N0 arr2 (lo+n2 - (neq+1)) (lo+n2) ((lo+n2 - (lo+n2 - (neq+1))) / 2)):=k2.trans (cX.mirror (by lia) (by lia))
    have d4:xo rk (N0 arr2 (lo+n2 - (neq+1)) (lo+n2) ((lo+n2 - (lo+n2 - (neq+1))) / 2)) lo n2:=fun i j hi hij hj=>by rw[eqv,eqv];exact d2 i j hi hij hj
    show wpS _ _ _ _ _ _ (t9 κ (N0 arr2 (lo+n2 - (neq+1)) (lo+n2) ((lo+n2 - (lo+n2 - (neq+1))) / 2)) pd mg none)
    generalize N0 arr2 (lo+n2 - (neq+1)) (lo+n2) ((lo+n2 - (lo+n2 - (neq+1))) / 2)=arr4 at k4 d4
    refine i7 (G8 ?_)
    have k5:cX lo arr (N0 arr4 lo (lo+n2) ((lo+n2 - lo) / 2)):=k4.trans (cX.mirror (i6 _) (by rw[k4.size];lia))
    have s5:mV rk (N0 arr4 lo (lo+n2) ((lo+n2 - lo) / 2)) lo n2:=fun i j hi hij hj=>by
     rw[Kv.mirror (by rw[k4.size];lia),Kv.mirror (by rw[k4.size];lia),if_pos (by lia),if_pos (by lia)]
     exact d4 _ _ (by lia) (by lia) (by lia)
    have m5:∀x∈(N0 arr4 lo (lo+n2) ((lo+n2 - lo) / 2)).toList,M x:=fun x hx=>m x (k5.perm.mem_iff.mp hx)
    have z5:=k5.size
    show wpS _ _ _ _ _ _ (t9 κ (N0 arr4 lo (lo+n2) ((lo+n2 - lo) / 2)) pd mg none)
    generalize N0 arr4 lo (lo+n2) ((lo+n2 - lo) / 2)=arr5 at k5 s5 m5 z5
    refine i7 (js (arr:=arr5) (lo:=lo) ?_ (by lia) (by lia) s5 fun n3 hn31 hn32 hs3 _=>j8 (h arr5 n3 (by lia) hn32 k5 hs3))
    intro x n R hn hnn r1 r2
    dsimp only
    refine i7 (cy hA m5 (by lia) (by lia) ?_)
    by_cases hlt:Kv rk arr5 (lo+n)<Kv rk arr5 (lo+n - 1)
    ·rw[decide_eq_true hlt];exact j8 (r1 hlt)
    ·rw[decide_eq_false hlt];exact j8 (r2 hlt)
   ·rw[if_neg hq]
    have k4:=k2
    have d4:=d2
    generalize arr2=arr4 at k4 d4
    refine i7 (G8 ?_)
    have k5:cX lo arr (N0 arr4 lo (lo+n2) ((lo+n2 - lo) / 2)):=k4.trans (cX.mirror (i6 _) (by rw[k4.size];lia))
    have s5:mV rk (N0 arr4 lo (lo+n2) ((lo+n2 - lo) / 2)) lo n2:=fun i j hi hij hj=>by
     rw[Kv.mirror (by rw[k4.size];lia),Kv.mirror (by rw[k4.size];lia),if_pos (by lia),if_pos (by lia)]
     exact d4 _ _ (by lia) (by lia) (by lia)
    have m5:∀x∈(N0 arr4 lo (lo+n2) ((lo+n2 - lo) / 2)).toList,M x:=fun x hx=>m x (k5.perm.mem_iff.mp hx)
    have z5:=k5.size
    show wpS _ _ _ _ _ _ (t9 κ (N0 arr4 lo (lo+n2) ((lo+n2 - lo) / 2)) pd mg none)
    generalize N0 arr4 lo (lo+n2) ((lo+n2 - lo) / 2)=arr5 at k5 s5 m5 z5
    refine i7 (js (arr:=arr5) (lo:=lo) ?_ (by lia) (by lia) s5 fun n3 hn31 hn32 hs3 _=>j8 (h arr5 n3 (by lia) hn32 k5 hs3))
    intro x n R hn hnn r1 r2
    dsimp only
    refine i7 (cy hA m5 (by lia) (by lia) ?_)
    by_cases hlt:Kv rk arr5 (lo+n)<Kv rk arr5 (lo+n - 1)
    ·rw[decide_eq_true hlt];exact j8 (r1 hlt)
    ·rw[decide_eq_false hlt];exact j8 (r2 hlt)
 rw[if_neg hn]
 have k1:cX lo arr arr:=cX.refl lo arr
 have en:n=1:=by lia
 have d1:xo rk arr lo (n+1):=by
  refine xo.more (fun i j hi hij hj=>?_) hlt
  have:i=j:=by lia
  subst this;exact fg _
 refine i7 (fO (Q9 ⟨rfl,?_⟩))
 refine i7 (X0 (G5 (I:=fun x c st'=>∃arr2 neq,c=(none,x,neq)/\st'=t9 κ arr2 pd mg none/\cX lo arr arr2/\xo rk arr2 lo x/\neq+1<=x/\(∀i,lo+x - (neq+1)<=i->i<lo+x->Kv rk arr2 i=Kv rk arr2 (lo+x - 1)))
  (Q:=fun c st'=>∃arr2 n2 neq,c=(none,n2,neq)/\st'=t9 κ arr2 pd mg none/\cX lo arr arr2/\xo rk arr2 lo n2/\neq+1<=n2/\(∀i,lo+n2 - (neq+1)<=i->i<lo+n2->Kv rk arr2 i=Kv rk arr2 (lo+n2 - 1))/\n+1<=n2/\n2<=nrem) ?_ ?_ ⟨_,0,rfl,rfl,k1,d1,by lia,fun i hi hi2=>by congr 1;lia⟩) ?_)
 ·rintro x c st' hnx hx ⟨arr2,neq,rfl,rfl,k2,d2,q1,q2⟩
  have m2:∀x∈arr2.toList,M x:=fun x hx=>m x (k2.perm.mem_iff.mp hx)
  have z2:=k2.size
  dsimp only
  refine i7 (cy hA m2 (by lia) (by lia) ?_)
  by_cases hlt:Kv rk arr2 (lo+x)<Kv rk arr2 (lo+x - 1)
  ·rw[decide_eq_true hlt]
   dsimp only
   rw[if_pos rfl]
   by_cases hq:neq > 0
   ·rw[if_pos hq]
    refine i7 (G8 (j8 ⟨_,0,rfl,rfl,k2.trans (cX.mirror (by lia) (by lia)),?_,by lia,fun i hi hi2=>by congr 1;lia⟩))
    have eqv:=gu (rk:=rk) (a:=arr2) (i:=lo+x - (neq+1)) (j:=lo+x) (by lia) q2
    intro i j hi hij hj
    show Kv rk (N0 arr2 _ _ _) j<=Kv rk (N0 arr2 _ _ _) i
    rw[eqv,eqv]
    exact d2.more hlt i j hi hij (by lia)
   ·rw[if_neg hq]
    exact j8 ⟨arr2,0,rfl,rfl,k2,fun i j hi hij hj=>d2.more hlt i j hi hij (by lia),by lia,fun i hi hi2=>by congr 1;lia⟩
  ·rw[decide_eq_false hlt]
   dsimp only
   rw[if_neg (by decide)]
   refine i7 (cy hA m2 (by lia) (by lia) ?_)
   by_cases hgt:Kv rk arr2 (lo+x - 1)<Kv rk arr2 (lo+x)
   ·rw[decide_eq_true hgt]
    dsimp only
    rw[if_pos rfl]
    exact j8 ⟨arr2,x,neq,rfl,rfl,k2,d2,q1,q2,hnx,by lia⟩
   ·rw[decide_eq_false hgt]
    dsimp only
    rw[if_neg (by decide)]
    have heq:Kv rk arr2 (lo+x)=Kv rk arr2 (lo+x - 1):=by lia
    refine j8 ⟨arr2,neq+1,rfl,rfl,k2,fun i j hi hij hj=>?_,by lia,fun i hi hi2=>?_⟩
    ·exact d2.more' (by lia) i j hi hij (by lia)
    ·rw[show lo+(x+1) - 1=lo+x by lia,heq]
     by_cases hix:i=lo+x
     ·rw[hix,heq]
     ·exact q2 i (by lia) (by lia)
 ·rintro c st' ⟨arr2,neq,rfl,rfl,k2,d2,q1,q2⟩
  rw[show max (n+1) nrem=nrem by lia] at d2 q1 q2 ⊢
  exact ⟨arr2,nrem,neq,rfl,rfl,k2,d2,q1,q2,by lia,i6 _⟩
 ·rintro c st' ⟨arr2,n2,neq,rfl,rfl,k2,d2,q1,q2,hn2a,hn2b⟩
  have z2:=k2.size
  dsimp only
  by_cases hq:neq > 0
  ·rw[if_pos hq]
   refine i7 (G8 ?_)
   have eqv:=gu (rk:=rk) (a:=arr2) (i:=lo+n2 - (neq+1)) (j:=lo+n2) (by lia) q2
   have k4:cX lo arr (N0 arr2 (lo+n2 - (neq+1)) (lo+n2) ((lo+n2 - (lo+n2 - (neq+1))) / 2)):=k2.trans (cX.mirror (by lia) (by lia))
   have d4:xo rk (N0 arr2 (lo+n2 - (neq+1)) (lo+n2) ((lo+n2 - (lo+n2 - (neq+1))) / 2)) lo n2:=fun i j hi hij hj=>by rw[eqv,eqv];exact d2 i j hi hij hj
   show wpS _ _ _ _ _ _ (t9 κ (N0 arr2 (lo+n2 - (neq+1)) (lo+n2) ((lo+n2 - (lo+n2 - (neq+1))) / 2)) pd mg none)
   generalize N0 arr2 (lo+n2 - (neq+1)) (lo+n2) ((lo+n2 - (lo+n2 - (neq+1))) / 2)=arr4 at k4 d4
   refine i7 (G8 ?_)
   have k5:cX lo arr (N0 arr4 lo (lo+n2) ((lo+n2 - lo) / 2)):=k4.trans (cX.mirror (i6 _) (by rw[k4.size];lia))
   have s5:mV rk (N0 arr4 lo (lo+n2) ((lo+n2 - lo) / 2)) lo n2:=fun i j hi hij hj=>by
    rw[Kv.mirror (by rw[k4.size];lia),Kv.mirror (by rw[k4.size];lia),if_pos (by lia),if_pos (by lia)]
    exact d4 _ _ (by lia) (by lia) (by lia)
   have m5:∀x∈(N0 arr4 lo (lo+n2) ((lo+n2 - lo) / 2)).toList,M x:=fun x hx=>m x (k5.perm.mem_iff.mp hx)
   have z5:=k5.size
   show wpS _ _ _ _ _ _ (t9 κ (N0 arr4 lo (lo+n2) ((lo+n2 - lo) / 2)) pd mg none)
   generalize N0 arr4 lo (lo+n2) ((lo+n2 - lo) / 2)=arr5 at k5 s5 m5 z5
   refine i7 (js (arr:=arr5) (lo:=lo) ?_ (by lia) (by lia) s5 fun n3 hn31 hn32 hs3 _=>j8 (h arr5 n3 (by lia) hn32 k5 hs3))
   intro x n R hn hnn r1 r2
   dsimp only
   refine i7 (cy hA m5 (by lia) (by lia) ?_)
   by_cases hlt:Kv rk arr5 (lo+n)<Kv rk arr5 (lo+n - 1)
   ·rw[decide_eq_true hlt];exact j8 (r1 hlt)
   ·rw[decide_eq_false hlt];exact j8 (r2 hlt)
  ·rw[if_neg hq]
   have k4:=k2
   have d4:=d2
   generalize arr2=arr4 at k4 d4
   refine i7 (G8 ?_)
   have k5:cX lo arr (N0 arr4 lo (lo+n2) ((lo+n2 - lo) / 2)):=k4.trans (cX.mirror (i6 _) (by rw[k4.size];lia))
   have s5:mV rk (N0 arr4 lo (lo+n2) ((lo+n2 - lo) / 2)) lo n2:=fun i j hi hij hj=>by
    rw[Kv.mirror (by rw[k4.size];lia),Kv.mirror (by rw[k4.size];lia),if_pos (by lia),if_pos (by lia)]
    exact d4 _ _ (by lia) (by lia) (by lia)
   have m5:∀x∈(N0 arr4 lo (lo+n2) ((lo+n2 - lo) / 2)).toList,M x:=fun x hx=>m x (k5.perm.mem_iff.mp hx)
   have z5:=k5.size
   show wpS _ _ _ _ _ _ (t9 κ (N0 arr4 lo (lo+n2) ((lo+n2 - lo) / 2)) pd mg none)
   generalize N0 arr4 lo (lo+n2) ((lo+n2 - lo) / 2)=arr5 at k5 s5 m5 z5
   refine i7 (js (arr:=arr5) (lo:=lo) ?_ (by lia) (by lia) s5 fun n3 hn31 hn32 hs3 _=>j8 (h arr5 n3 (by lia) hn32 k5 hs3))
   intro x n R hn hnn r1 r2
   dsimp only
   refine i7 (cy hA m5 (by lia) (by lia) ?_)
   by_cases hlt:Kv rk arr5 (lo+n)<Kv rk arr5 (lo+n - 1)
   ·rw[decide_eq_true hlt];exact j8 (r1 hlt)
   ·rw[decide_eq_false hlt];exact j8 (r2 hlt)
end
theorem cX.bubble {lo src d:Nat}{a:Array n6} (hs:src<a.size) (hd:lo+d<=src):cX lo a (bubble a src d):=
 ⟨Array.perm_iff_toList_perm.mp (bubble_perm a src d),fun k hk=>by rw[getElem?_bubble hs d (by lia),if_neg (by lia),if_neg (by lia)]⟩
theorem Kv.bubble {rk:n6->Int}{a:Array n6}{src d:Nat} (hs:src<a.size) (hd:d<=src) (k:Nat):Kv rk (bubble a src d) k=if k=src - d then Kv rk a src else if src - d<k/\k<=src then Kv rk a (k - 1) else Kv rk a k:=by
 have e:=getElem?_bubble hs d hd k
 by_cases h1:k=src - d
 ·rw[if_pos h1] at e ⊢;exact Kv.congr e
 ·rw[if_neg h1] at e ⊢
  by_cases h2:src - d<k/\k<=src
  ·rw[if_pos h2] at e ⊢;exact Kv.congr e
  ·rw[if_neg h2] at e ⊢;exact Kv.congr e
section
variable {prog:j7}{w:u9}{A:A8}{E:b9->d9->Prop}{s:d9}{rk:n6->Int}{M:n6->Prop}{κ:dZ}{pd:Array (Nat × Nat × Nat)}{mg:Nat}
theorem fW {arr:Array n6}{lo n ok:Nat}{Q:Bool->G9->Prop} (hA:xt prog w A s rk M κ) (m:∀x∈arr.toList,M x) (h1:1<=ok) (h2:ok<=n) (hN:lo+n<=arr.size) (hs:mV rk arr lo ok)
  (h:∀(arr':Array n6),cX lo arr arr'->mV rk arr' lo n->Q true (t9 κ arr' pd mg none)):wpS (r6 prog w) A E s (binarySort' lo n ok) Q (t9 κ arr pd mg none):=by
 refine i7 (X0 (G5 (I:=fun k c st'=>c=(none,())/\∃arr2,st'=t9 κ arr2 pd mg none/\cX lo arr arr2/\mV rk arr2 lo k) (Q:=fun c st'=>c=(none,())/\∃arr2,st'=t9 κ arr2 pd mg none/\cX lo arr arr2/\mV rk arr2 lo n) ?_ ?_ ⟨rfl,arr,rfl,cX.refl lo arr,by rw[JC h1];exact hs⟩) ?_)
 ·rintro k c st' hk1 hk2 ⟨rfl,arr2,rfl,k2,s2⟩
  have z2:=k2.size
  have m2:∀x∈arr2.toList,M x:=fun x hx=>m x (k2.perm.mem_iff.mp hx)
  rw[JC h1] at hk1
  dsimp only
  refine i7 (X0 (G5 (I:=fun x c st'=>st'=t9 κ arr2 pd mg none/\∃l r,c=(none,l,r)/\l<=r/\r<=k/\r - l<=k - x/\(∀i,i<l->Kv rk arr2 (lo+i)<=Kv rk arr2 (lo+k))/\(∀i,r<=i->i<k->Kv rk arr2 (lo+k)<=Kv rk arr2 (lo+i)))
   (Q:=fun c st'=>st'=t9 κ arr2 pd mg none/\∃l,c=(none,l,l)/\l<=k/\(∀i,i<l->Kv rk arr2 (lo+i)<=Kv rk arr2 (lo+k))/\(∀i,l<=i->i<k->Kv rk arr2 (lo+k)<=Kv rk arr2 (lo+i))) ?_ ?_ ⟨rfl,0,k,rfl,v8 _,i6 _,by lia,fun i hi=>by lia,fun i hi hi2=>by lia⟩) ?_)
  ·rintro x c st' _ hx ⟨rfl,l,r,rfl,a1,a2,a3,a4,a5⟩
   dsimp only
   by_cases hge:l ≥ r
   ·rw[if_pos hge]
    have e:l=r:=by lia
    subst e
    exact j8 ⟨rfl,l,rfl,a2,a4,a5⟩
   rw[if_neg hge]
   refine i7 (cy hA m2 (by lia) (by lia) ?_)
   by_cases hlt:Kv rk arr2 (lo+k)<Kv rk arr2 (lo+(l+r) / 2)
   ·rw[decide_eq_true hlt]
    refine j8 ⟨rfl,l,(l+r) / 2,rfl,by lia,by lia,by lia,a4,fun i hi hi2=>?_⟩
    exact E9 (aE hlt) (s2 _ _ (by lia) (by lia) (by lia))
   ·rw[decide_eq_false hlt]
    refine j8 ⟨rfl,(l+r) / 2+1,r,rfl,by lia,a2,by lia,fun i hi=>?_,a5⟩
    exact E9 (s2 _ (lo+(l+r) / 2) (by lia) (by lia) (by lia)) (Int.not_lt.mp hlt)
  ·rintro c st' ⟨rfl,l,r,rfl,a1,a2,a3,a4,a5⟩
   have e:l=r:=by lia
   subst e
   exact ⟨rfl,l,rfl,a2,a4,a5⟩
  ·rintro c st' ⟨rfl,l,rfl,a2,a4,a5⟩
   dsimp only
   refine i7 (G8 (j8 ⟨rfl,_,rfl,k2.trans (cX.bubble (src:=lo+k) (d:=lo+k - (lo+l)) (by lia) (by lia)),?_⟩))
   intro i j hi hij hj
   show Kv rk (bubble arr2 (lo+k) (lo+k - (lo+l))) i<=Kv rk (bubble arr2 (lo+k) (lo+k - (lo+l))) j
   rw[Kv.bubble (by lia) (by lia),Kv.bubble (by lia) (by lia),show lo+k - (lo+k - (lo+l))=lo+l by lia]
   by_cases c1:i=lo+l
   ·rw[if_pos c1]
    by_cases c2:j=lo+l
    ·rw[if_pos c2];exact fg _
    ·rw[if_neg c2,if_pos (by lia)]
     have:=a5 (j - 1 - lo) (by lia) (by lia)
     rw[show lo+(j - 1 - lo)=j - 1 by lia] at this
     exact this
   ·rw[if_neg c1]
    by_cases c3:lo+l<i/\i<=lo+k
    ·rw[if_pos c3,if_neg (by lia),if_pos (by lia)]
     exact s2 _ _ (by lia) (by lia) (by lia)
    ·rw[if_neg c3]
     by_cases c2:j=lo+l
     ·rw[if_pos c2]
      have:=a4 (i - lo) (by lia)
      rw[show lo+(i - lo)=i by lia] at this
      exact this
     ·rw[if_neg c2]
      by_cases c4:lo+l<j/\j<=lo+k
      ·rw[if_pos c4]
       exact s2 _ _ hi (by lia) (by lia)
      ·rw[if_neg c4]
       exact s2 _ _ hi hij (by lia)
 ·rintro c st' ⟨rfl,arr2,rfl,k2,s2⟩
  rw[show max (max ok 1) n=n by lia] at s2
  exact ⟨rfl,arr2,rfl,k2,s2⟩
 ·rintro c st' ⟨rfl,arr2,rfl,k2,s2⟩
  exact j8 (h arr2 k2 s2)
end
theorem yo {N:Nat} (h1:64<=N) (h2:N<128):LR N N 0=N / 2+N % 2:=by
 obtain ⟨f,hf⟩:∃f,N=f+2:=⟨N - 2,by lia⟩
 have:LR (f+2) N 0=N / 2+N % 2:=by
  rw[EU,if_neg (by lia),EU,if_pos (by lia)]
  lia
 rw[<- hf] at this
 exact this
theorem tK {arr:Array n6}{n:Nat} (h:mV rk arr lo n) (hN:lo+n<=arr.size):Up rk ((arr.toList.drop lo).take n):=by
 refine List.pairwise_iff_getElem.mpr fun i j hi hj hij=>?_
 have hj':j<n:=by rw[v7] at hj;lia
 have e:∀k (hk:k<((arr.toList.drop lo).take n).length),rk (((arr.toList.drop lo).take n)[k])=Kv rk arr (lo+k):=fun k hk=>by
  have hk':k<n:=by rw[v7] at hk;lia
  have e1:((arr.toList.drop lo).take n)[k]?=arr[lo+k]?:=by rw[Q0,if_pos hk',N9];simp
  unfold Kv
  rw[<- e1,f7 hk];rfl
 rw[e i hi,e j hj]
 exact h _ _ (by lia) (by lia) (by lia)
theorem mV.low {rk:n6->Int}{a b:Array n6}{lo n:Nat} (h:mV rk a 0 n) (k:cX lo a b) (hn:n<=lo):mV rk b 0 n:=fun i j hi hij hj=>by
 rw[Kv.congr (k.low i (by lia)),Kv.congr (k.low j (by lia))]
 exact h i j hi hij hj
theorem cX.weak {b:Array n6} (h:cX lo a b):cX 0 a b:=⟨h.perm,fun i hi=>absurd hi (Nat.not_lt_zero i)⟩
section
variable {prog:j7}{w:u9}{A:A8}{E:b9->d9->Prop}{s:d9}{rk:n6->Int}{M:n6->Prop}{κ:dZ}
theorem vD {arr:Array n6}{Q:Unit->G9->Prop} (hA:xt prog w A s rk M κ) (m:∀x∈arr.toList,M x) (h64:64<=arr.size) (h128:arr.size<128)
  (h:∀st',(dF st').toList.Perm arr.toList->dX st'=none->Up rk (dF st').toList->Q () st'):wpS (r6 prog w) A E s Mj Q (t9 κ arr #[] 7 none):=by
 rw[sortRuns'_eq]
 refine i7 (Y4 ?_)
 dsimp only
 have hmr:=yo h64 h128
 obtain ⟨N,eN⟩:∃N,N=arr.size:=⟨_,rfl⟩
 obtain ⟨mr,emr⟩:∃mr,mr=N / 2+N % 2:=⟨_,rfl⟩
 rw[<- eN] at hmr h64 h128
 rw[<- emr] at hmr
 simp only[<- eN,hmr]
 refine i7 (X0 (G5
  (I:=fun x c st'=>(x=0/\c=(none,0)/\st'=t9 κ arr #[] 7 none) ∨ (1<=x/\∃n arr2,c=(none,n)/\st'=t9 κ arr2 #[(0,n,0)] 7 none/\mr<=n/\n<=N/\cX 0 arr arr2/\mV rk arr2 0 n/\(n=N ∨ x=1)) ∨ (2<=x/\∃n pw arr2,c=(none,N)/\st'=t9 κ arr2 #[(0,n,pw),(n,N - n,0)] 7 none/\mr<=n/\n<N/\cX 0 arr arr2/\mV rk arr2 0 n/\mV rk arr2 n (N - n)))
  (Q:=fun c st'=>c.1=none/\((∃arr2,st'=t9 κ arr2 #[(0,N,0)] 7 none/\cX 0 arr arr2/\mV rk arr2 0 N) ∨ (∃n pw arr2,st'=t9 κ arr2 #[(0,n,pw),(n,N - n,0)] 7 none/\mr<=n/\n<N/\cX 0 arr arr2/\mV rk arr2 0 n/\mV rk arr2 n (N - n)))) ?_ ?_ (.inl ⟨rfl,rfl,rfl⟩)) ?_)
 ·rintro x c st' _ hx (⟨rfl,rfl,rfl⟩|⟨hx1,n,arr2,rfl,rfl,hn1,hn2,k2,s2,hnx⟩|⟨hx2,n,pw,arr2,rfl,rfl,hn1,hn2,k2,s2,s3⟩)
  ·dsimp only
   rw[if_neg (by lia)]
   simp only[jI,K5]
   refine i7 (jq hA m (by lia) (by lia) fun arr2 n hn1 hn2 k2 s2=>?_)
   have m2:∀x∈arr2.toList,M x:=fun x hx=>m x (k2.perm.mem_iff.mp hx)
   have z2:=k2.size
   dsimp only
   by_cases hlt:n<mr
   ·rw[if_pos hlt]
    refine i7 (fO (Q9 ⟨rfl,?_⟩))
    refine i7 (fW hA m2 hn1 (by lia) (by lia) s2 fun arr3 k3 s3=>?_)
    simp only[iy,F9,if_false]
    refine i7 (Y4 ?_)
    have hb:(Z2 (t9 κ arr3 #[] 7 none)).back?=none:=rfl
    rw[hb]
    dsimp only
    exact i7 (G8 (j8 (.inr (.inl ⟨by lia,min N mr,arr3,rfl,rfl,by lia,by lia,k2.trans k3,s3,.inr (by first|rfl|trivial)⟩))))
   ·rw[if_neg hlt]
    refine i7 (Y4 ?_)
    have hb:(Z2 (t9 κ arr2 #[] 7 none)).back?=none:=rfl
    rw[hb]
    dsimp only
    exact i7 (G8 (j8 (.inr (.inl ⟨by lia,n,arr2,rfl,rfl,by lia,hn2,k2,s2,.inr (by first|rfl|trivial)⟩))))
  ·dsimp only
   by_cases hnN:n ≥ N
   ·rw[if_pos hnN]
    have e:n=N:=by lia
    subst e
    exact j8 ⟨rfl,.inl ⟨arr2,rfl,k2,s2⟩⟩
   rw[if_neg hnN]
   have m2:∀x∈arr2.toList,M x:=fun x hx=>m x (k2.perm.mem_iff.mp hx)
   have z2:=k2.size
   refine i7 (jq hA m2 (by lia) (by lia) fun arr3 n3 hn31 hn32 k3 s3=>?_)
   have m3:∀x∈arr3.toList,M x:=fun x hx=>m2 x (k3.perm.mem_iff.mp hx)
   have z3:=k3.size
   dsimp only
   by_cases hlt:n3<mr
   ·rw[if_pos hlt]
    refine i7 (fO (Q9 ⟨rfl,?_⟩))
    simp only[show min (N - n) mr=N - n by lia]
    refine i7 (fW hA m3 hn31 (by lia) (by lia) s3 fun arr4 k4 s4=>?_)
    simp only[iy,F9,if_false]
    refine i7 (Y4 ?_)
    have hb:(Z2 (t9 κ arr4 #[(0,n,0)] 7 none)).back?=some (0,n,0):=rfl
    rw[hb]
    dsimp only
    refine i7 (X0 (G5 (I:=fun _ c st'=>c=(none,())/\st'=t9 κ arr4 #[(0,n,0)] 7 none) (Q:=fun c st'=>c=(none,())/\st'=t9 κ arr4 #[(0,n,0)] 7 none) ?_ (fun _ _ z=>z) ⟨rfl,rfl⟩) ?_)
    ·rintro y c st' _ _ ⟨rfl,rfl⟩
     refine i7 (Y4 ?_)
     have hp1:¬ (Z2 (t9 κ arr4 #[(0,n,0)] 7 none)).size > 1:=by show ¬ (1:Nat) > 1;decide
     rw[if_neg hp1]
     exact j8 ⟨rfl,rfl⟩
    ·rintro c st' ⟨rfl,rfl⟩
     dsimp only
     refine i7 (G8 (i7 (G8 (j8 (.inr (.inr ⟨by lia,n,power' N (2*0+n) (2*0+n+n+(N - n)) N,arr4,?_,?_,hn1,by lia,k2.trans (cX.weak (k3.trans k4)),(s2.low k3 (i6 _)).low k4 (i6 _),s4⟩))))))
     ·first|rfl | (congr 1;lia)
     ·first|rfl | (congr 1;try simp;try lia)
   ·rw[if_neg hlt]
    have e3:n3=N - n:=by lia
    subst e3
    refine i7 (Y4 ?_)
    have hb:(Z2 (t9 κ arr3 #[(0,n,0)] 7 none)).back?=some (0,n,0):=rfl
    rw[hb]
    dsimp only
    refine i7 (X0 (G5 (I:=fun _ c st'=>c=(none,())/\st'=t9 κ arr3 #[(0,n,0)] 7 none) (Q:=fun c st'=>c=(none,())/\st'=t9 κ arr3 #[(0,n,0)] 7 none) ?_ (fun _ _ z=>z) ⟨rfl,rfl⟩) ?_)
    ·rintro y c st' _ _ ⟨rfl,rfl⟩
     refine i7 (Y4 ?_)
     have hp1:¬ (Z2 (t9 κ arr3 #[(0,n,0)] 7 none)).size > 1:=by show ¬ (1:Nat) > 1;decide
     rw[if_neg hp1]
     exact j8 ⟨rfl,rfl⟩
    ·rintro c st' ⟨rfl,rfl⟩
     dsimp only
     refine i7 (G8 (i7 (G8 (j8 (.inr (.inr ⟨by lia,n,power' N (2*0+n) (2*0+n+n+(N - n)) N,arr3,?_,?_,hn1,by lia,k2.trans (cX.weak k3),s2.low k3 (i6 _),s3⟩))))))
     ·first|rfl | (congr 1;lia)
     ·first|rfl | (congr 1;try simp;try lia)
  ·dsimp only
   rw[if_pos (i6 _)]
   exact j8 ⟨rfl,.inr ⟨n,pw,arr2,rfl,hn1,hn2,k2,s2,s3⟩⟩
 ·rintro c st' (⟨hx,rfl,rfl⟩|⟨hx1,n,arr2,rfl,rfl,hn1,hn2,k2,s2,hnx⟩|⟨hx2,n,pw,arr2,rfl,rfl,hn1,hn2,k2,s2,s3⟩)
  ·lia
  ·have e:n=N:=by lia
   subst e
   exact ⟨rfl,.inl ⟨arr2,rfl,k2,s2⟩⟩
  ·exact ⟨rfl,.inr ⟨n,pw,arr2,rfl,hn1,hn2,k2,s2,s3⟩⟩
 ·rintro ⟨c1,c2⟩ st' ⟨hc,hst⟩
  dsimp only at hc
  subst hc
  dsimp only
  refine i7 (X0 (G5 (I:=fun x c st'=>c=(none,())/\((∃arr2 mg,st'=t9 κ arr2 #[(0,N,(Z2 st').back?.elim 0 (·.2.2))] mg none/\arr2.toList.Perm arr.toList/\Up rk arr2.toList) ∨ (x=0/\∃n pw arr2,st'=t9 κ arr2 #[(0,n,pw),(n,N - n,0)] 7 none/\mr<=n/\n<N/\cX 0 arr arr2/\mV rk arr2 0 n/\mV rk arr2 n (N - n))))
   (Q:=fun c st'=>c=(none,())/\dX st'=none/\(dF st').toList.Perm arr.toList/\Up rk (dF st').toList) ?_ ?_ ?_) ?_)
  ·rintro x c st2 _ hx ⟨rfl,(⟨arr2,mg,e,hp,hu⟩|⟨rfl,n,pw,arr2,rfl,hn1,hn2,k2,s2,s3⟩)⟩
   ·generalize (Z2 st2).back?.elim 0 (·.2.2)=pw at e
    subst e
    refine i7 (Y4 ?_)
    rw[if_pos (by show (1:Nat)<=1;exact i6 1)]
    exact j8 ⟨rfl,rfl,hp,hu⟩
   ·have m2:∀x∈arr2.toList,M x:=fun x hx=>m x (k2.perm.mem_iff.mp hx)
    have z2:=k2.size
    refine i7 (Y4 ?_)
    rw[if_neg (by show ¬ (2:Nat)<=1;decide)]
    have u1:Up rk (arr2.toList.take n):=by have:=tK s2 (by lia);rw[P2] at this;exact this
    have u2:Up rk (arr2.toList.drop n):=by
     have:=tK s3 (by lia)
     rw[G6 (by rw[K0,D9];lia)] at this
     exact this
    refine i7 (yr hA m2 (by lia) (by lia) (by lia) u1 u2 fun arr' mg' hp hu=>?_)
    simp only[iy,F9,if_false]
    refine j8 ⟨rfl,.inl ⟨arr',mg',?_,hp.trans k2.perm,hu⟩⟩
    rw[show n+(N - n)=N by lia]
    rfl
  ·rintro c st2 ⟨rfl,(⟨arr2,mg,e,hp,hu⟩|⟨hx,_⟩)⟩
   ·generalize (Z2 st2).back?.elim 0 (·.2.2)=pw at e
    subst e
    exact ⟨rfl,rfl,hp,hu⟩
   ·lia
  ·refine ⟨rfl,?_⟩
   rcases hst with ⟨arr2,rfl,k2,s2⟩|⟨n,pw,arr2,rfl,r⟩
   ·refine .inl ⟨arr2,7,rfl,k2.perm,?_⟩
    have z2:=k2.size
    have:=tK s2 (by lia)
    rw[P2,G6 (by rw[D9];lia)] at this
    exact this
   ·exact .inr ⟨rfl,n,pw,arr2,rfl,r⟩
  ·rintro c st2 ⟨rfl,hf,hp,hu⟩
   exact j8 (h st2 hp hf hu)
end
end So
namespace So
open PySem PyProof.Rows PySem.Spec L2
section
variable {prog:j7}{w:u9}{A:A8}{E:b9->d9->Prop}{s:d9}{rk:n6->Int}{M:n6->Prop}{κ:dZ}
theorem pL {arr:Array n6}{Q:Unit->G9->Prop} (hA:xt prog w A s rk M κ) (m:∀x∈arr.toList,M x) (h2:2<=arr.size) (h64:arr.size<64)
  (h:∀st',(dF st').toList.Perm arr.toList->dX st'=none->Up rk (dF st').toList->Q () st'):wpS (r6 prog w) A E s Mj Q (t9 κ arr #[] 7 none):=by
 rw[sortRuns'_eq]
 refine i7 (Y4 ?_)
 dsimp only
 obtain ⟨N,eN⟩:∃N,N=arr.size:=⟨_,rfl⟩
 have hmr:LR N N 0=N:=by
  obtain ⟨f,hf⟩:∃f,N=f+1:=⟨N - 1,by lia⟩
  have:LR (f+1) N 0=N:=by rw[EU,if_pos (by lia)];rfl
  rw[<- hf] at this
  exact this
 simp only[<- eN,hmr]
 refine i7 (X0 (G5
  (I:=fun x c st'=>(x=0/\c=(none,0)/\st'=t9 κ arr #[] 7 none) ∨ (1<=x/\∃arr2,c=(none,N)/\st'=t9 κ arr2 #[(0,N,0)] 7 none/\cX 0 arr arr2/\mV rk arr2 0 N))
  (Q:=fun c st'=>c.1=none/\∃arr2,st'=t9 κ arr2 #[(0,N,0)] 7 none/\cX 0 arr arr2/\mV rk arr2 0 N) ?_ ?_ (.inl ⟨rfl,rfl,rfl⟩)) ?_)
 ·rintro x c st' _ hx (⟨rfl,rfl,rfl⟩|⟨hx1,arr2,rfl,rfl,k2,s2⟩)
  ·dsimp only
   rw[if_neg (by lia)]
   simp only[jI,K5,Nat.min_self]
   refine i7 (jq hA m (by lia) (by lia) fun arr2 n hn1 hn2 k2 s2=>?_)
   have m2:∀x∈arr2.toList,M x:=fun x hx=>m x (k2.perm.mem_iff.mp hx)
   have z2:=k2.size
   dsimp only
   by_cases hlt:n<N
   ·rw[if_pos hlt]
    refine i7 (fO (Q9 ⟨rfl,?_⟩))
    refine i7 (fW hA m2 hn1 (by lia) (by lia) s2 fun arr3 k3 s3=>?_)
    simp only[iy,F9,if_false]
    refine i7 (Y4 ?_)
    have hb:(Z2 (t9 κ arr3 #[] 7 none)).back?=none:=rfl
    rw[hb]
    dsimp only
    exact i7 (G8 (j8 (.inr ⟨by lia,arr3,rfl,rfl,k2.trans k3,s3⟩)))
   ·rw[if_neg hlt]
    have e:n=N:=by lia
    subst e
    refine i7 (Y4 ?_)
    have hb:(Z2 (t9 κ arr2 #[] 7 none)).back?=none:=rfl
    rw[hb]
    dsimp only
    exact i7 (G8 (j8 (.inr ⟨by lia,arr2,rfl,rfl,k2,s2⟩)))
  ·dsimp only
   rw[if_pos (i6 _)]
   exact j8 ⟨rfl,arr2,rfl,k2,s2⟩
 ·rintro c st' (⟨hx,rfl,rfl⟩|⟨hx1,arr2,rfl,rfl,k2,s2⟩)
  ·lia
  ·exact ⟨rfl,arr2,rfl,k2,s2⟩
 ·rintro ⟨c1,c2⟩ st' ⟨hc,arr2,rfl,k2,s2⟩
  dsimp only at hc
  subst hc
  dsimp only
  refine i7 (X0 (G5 (I:=fun _ c st'=>c=(none,())/\st'=t9 κ arr2 #[(0,N,0)] 7 none) (Q:=fun c st'=>c=(none,())/\st'=t9 κ arr2 #[(0,N,0)] 7 none) ?_ (fun _ _ z=>z) ⟨rfl,rfl⟩) ?_)
  ·rintro x c st' _ _ ⟨rfl,rfl⟩
   refine i7 (Y4 ?_)
   rw[if_pos (by show (1:Nat)<=1;exact i6 1)]
   exact j8 ⟨rfl,rfl⟩
  ·rintro c st' ⟨rfl,rfl⟩
   have z2:=k2.size
   refine j8 (h _ k2.perm rfl ?_)
   have:=tK s2 (by lia)
   rw[P2,G6 (by rw[D9];lia)] at this
   exact this
theorem tN {arr:Array n6}{Q:Unit->G9->Prop} (hA:xt prog w A s rk M κ) (m:∀x∈arr.toList,M x) (h2:2<=arr.size) (h128:arr.size<128)
  (h:∀st',(dF st').toList.Perm arr.toList->dX st'=none->Up rk (dF st').toList->Q () st'):wpS (r6 prog w) A E s Mj Q (t9 κ arr #[] 7 none):=by
 by_cases h64:arr.size<64
 ·exact pL hA m h2 h64 h
 ·exact vD hA m (by lia) h128 h
theorem sm {rv:b9->Int}{B:Addr}{vs:List b9}{c:Nat}{P:PySem.Fin->d9->Prop} (hB:s.heap.get? B=some (bA "list" vs.toArray c)) (h128:vs.length<128)
  (hk:2<=vs.length->∀h1,(∀b o,b≠B->s.heap.get? b=some o->h1.get? b=some o) ->
   j6 (r6 prog w) A (keyKind' vs.toArray) (fun κ s'=>s'={ s with heap:=h1 }/\xt prog w A { s with heap:=h1 } (fun x=>rv x.1) (fun x=>x.1∈vs) κ) (fun _ _=>False) { s with heap:=h1 })
  (hP:∀h' vs' c',vs'.Perm vs->vs'.Pairwise (fun x y=>rv x<=rv y)->(∀b o,b≠B->s.heap.get? b=some o->h'.get? b=some o)->h'.get? B=some (bA "list" (fK vs') c')->P (.done (.ret .none)) { s with heap:=h' }):j6 (r6 prog w) A (cg.«list.sort» ⟨[.ref B],[]⟩) P E s:=by
 obtain ⟨e1,hB1⟩:∃e1,(s.heap.update B (X3 fun _=>(#[]:Array b9))).get? B=some (bA "list" #[] e1):=⟨_,get?_update_seq hB fun _=>#[]⟩
 have b1:=Q5 s.heap B (X3 fun _=>(#[]:Array b9))
 obtain ⟨h3,eh3⟩:∃h3,h3=((s.heap.update B (X3 fun _=>(#[]:Array b9))).push (bA "tuple" vs.toArray 0)).push (bA "list" #[] 0):=⟨_,rfl⟩
 have hB3:h3.get? B=some (bA "list" #[] e1):=by rw[eh3];exact d7 _ (d7 _ hB1)
 have k3:∀b o,b≠B->s.heap.get? b=some o->h3.get? b=some o:=fun b o hb q=>by rw[eh3];exact d7 _ (d7 _ (b1.extBut b o hb q))
 rw[list_sort_plain]
 refine b7 (listItems_at hB rfl (b7 (listUpdate_at hB rfl ?_ (by rw[q9,X6];lia) (v8 _))))
 refine b7 (seqEpoch_at hB1 rfl (b7 (iB ?_ (by show vs.length<=_;rw[X6];lia))))
 refine b7 (BJ (L8 ?_) (v8 _))
 show j6 (r6 prog w) A _ P E { s with heap:=((s.heap.update B (X3 fun _=>(#[]:Array b9))).push (bA "tuple" vs.toArray 0)).push (bA "list" #[] 0) }
 rw[<- eh3]
 dsimp only
 have fin:∀(st:G9) (out:List b9),(dF st).map (·.2)=fK out->out.length=vs.length->dX st=none->out.Perm vs->out.Pairwise (fun x y=>rv x<=rv y) ->
   j6 (r6 prog w) A (do
    let sorted:=(dF st).map (·.2)
    let touched:=(<- seqEpoch B) != e1
    Builtin.List.listUpdate (.ref B) fun _=>sorted
    if let some e:=dX st then rule "list.sort.comparison-raised";throw e
    if touched then rule "list.sort.modified";raiseError "ValueError" "list modified during sort"
    ret .none) P E { s with heap:=h3 }:=fun st out ho hl hf hp hu=>by
  rw[ho]
  have sz:(fK out).size<=i0:=by rw[q9,hl,X6];lia
  obtain ⟨c2,hc2⟩:∃c2,(h3.update B (X3 fun _=>fK out)).get? B=some (bA "list" (fK out) c2):=⟨_,get?_update_seq hB3 fun _=>fK out⟩
  refine b7 (seqEpoch_at hB3 rfl (b7 (listUpdate_at hB3 rfl ?_ (v8 _) (j0 sz (Y9 _)))))
  rw[hf]
  simp only[bne_self_eq_false,F9,if_false]
  exact d6 (hP _ out c2 hp hu (fun b o hb q=>(Q5 h3 B _).extBut b o hb (k3 b o hb q)) hc2)
 by_cases h2:2<=vs.length
 ·have hn2:¬ vs.toArray.size<2:=by rw[q9];lia
  rw[if_neg hn2,if_neg hn2]
  refine b7 (F5 (hk h2 h3 k3) (fun κ s0 hh=>?_) fun _ _ x=>x.elim)
  obtain ⟨rfl,ask⟩:=hh
  have ez:(vs.toArray.zip vs.toArray).toList=vs.map fun v=>(v,v):=by
   rw[Array.toList_zip]
   show vs.zip vs=_
   clear hk hP hB h128 h2 hn2 ask fin hB1 b1 eh3 hB3 k3
   induction vs with
   | nil=>rfl
   | cons v vs ih=>rw[au,ih];rfl
  refine b7 (F5 (tN (rk:=fun x=>rv x.1) (M:=fun x=>x.1∈vs) (s:={ s with heap:=h3 }) (Q:=fun _ st'=>(dF st').toList.Perm (vs.map fun v=>(v,v))/\dX st'=none/\Up (fun x=>rv x.1) (dF st').toList) ask (fun x hx=>?_) ?_ ?_ (fun st' a1 a2 a3=>⟨by rw[ez] at a1;exact a1,a2,a3⟩)) ?_ fun _ _ e=>e)
  ·rw[ez] at hx
   obtain ⟨v,hv,rfl⟩:=List.mem_map.mp hx
   exact hv
  ·have:=congrArg BE ez
   simp at this ⊢
   lia
  ·have:=congrArg BE ez
   simp at this ⊢
   lia
  rintro ⟨⟨⟩,st'⟩ s' ⟨rfl,hp,hf,hu⟩
  dsimp only at hp hf hu ⊢
  have twin:∀x∈(dF st').toList,x.1=x.2:=fun x hx=>by
   obtain ⟨v,_,rfl⟩:=List.mem_map.mp (hp.mem_iff.mp hx)
   rfl
  have hp2:((dF st').toList.map (·.2)).Perm vs:=by
   have:=hp.map (·.2)
   rw[R8] at this
   have e:vs.map ((fun x:n6=>x.2) ∘ fun v=>(v,v))=vs:=by
    have:((fun x:n6=>x.2) ∘ fun v=>(v,v))=id:=rfl
    rw[this,BD]
   rw[e] at this
   exact this
  refine fin st' ((dF st').toList.map (·.2)) ?_ hp2.length_eq hf hp2 ?_
  ·apply Array.toList_inj.mp
   simp
  ·rw[de]
   refine fe ?_ hu
   intro x y hx hy hxy
   rw[<- twin x hx,<- twin y hy]
   exact hxy
 ·have hn2:vs.toArray.size<2:=by rw[q9];lia
  rw[if_pos hn2,if_pos hn2]
  refine b7 (d6 (b7 ?_))
  rw[StateT.run_pure]
  refine d6 ?_
  refine fin _ vs (by
   show ((vs.toArray.zip vs.toArray).map (·.2))=vs.toArray
   apply Array.toList_inj.mp
   simp[rg]) rfl rfl (bZ _) ?_
  match vs,h2 with
  | [],_=>exact bL
  | [v],_=>exact List.pairwise_singleton _ _
  | a::b::l,h2=>exact absurd (by simp:2<=(a::b::l).length) h2
end
end So
namespace L2
open PySem PySem.Spec PyProof.Rows HT
theorem uv:∀a:List Int,U7 a a=false
 | []=>rfl
 | x::a=>by rw[ik,if_pos rfl];exact uv a
theorem ur:∀{a b:List Int},U7 a b=false->U7 b a=false->a=b
 | [],[],_,_=>rfl
 | [],_::_,h,_=>by rw[fw] at h;cases h
 | _::_,[],_,h=>by rw[fw] at h;cases h
 | x::a,y::b,h,k=>by
  rw[ik] at h k
  by_cases e:x=y
  ·rw[if_pos e] at h
   rw[if_pos e.symm] at k
   rw[e,ur h k]
  ·rw[if_neg e,decide_eq_false_iff_not] at h
   rw[if_neg fun z=>e z.symm,decide_eq_false_iff_not] at k
   lia
theorem mI:∀{a b c:List Int},U7 a b=true->U7 b c=true->U7 a c=true
 | [],[],[],h,_=>by cases h
 | [],_::_,[],_,k=>by rw[cz] at k;cases k
 | [],_,_::_,_,_=>rfl
 | x::a,[],_,h,_=>by rw[cz] at h;cases h
 | x::a,y::b,[],_,k=>by rw[cz] at k;cases k
 | x::a,y::b,z::c,h,k=>by
  rw[ik] at h k ⊢
  by_cases e1:x=y
  ·rw[if_pos e1] at h
   by_cases e2:y=z
   ·rw[if_pos e2] at k
    rw[if_pos (e1.trans e2)]
    exact mI h k
   ·rw[if_neg e2,decide_eq_true_iff] at k
    rw[if_neg (by lia),decide_eq_true_iff];lia
  ·rw[if_neg e1,decide_eq_true_iff] at h
   by_cases e2:y=z
   ·rw[if_neg (by lia),decide_eq_true_iff];lia
   ·rw[if_neg e2,decide_eq_true_iff] at k
    rw[if_neg (by lia),decide_eq_true_iff];lia
noncomputable def jV (ks:List (List Int)) (k:List Int):Nat:=ks.countP fun z=>U7 z k
theorem ze {ks:List (List Int)}{a b:List Int} (ha:a∈ks) (h:U7 a b=true):jV ks a<jV ks b:=by
 unfold jV
 have mono:∀l:List (List Int),l.countP (fun z=>U7 z a)<=l.countP (fun z=>U7 z b):=fun l=>List.countP_mono_left fun z _ hz=>mI hz h
 induction ks with
 | nil=>cases ha
 | cons z ks ih =>
  rw[Gv,Gv]
  rcases List.mem_cons.mp ha with e|e
  ·subst e
   rw[if_neg (by rw[uv];decide),if_pos h]
   have:=mono ks
   lia
  ·have:=ih e
   by_cases hz:U7 z a=true
   ·rw[if_pos hz,if_pos (mI hz h)];lia
   ·rw[if_neg hz]
    split <;> lia
theorem kZ {ks:List (List Int)}{a b:List Int} (ha:a∈ks) (hb:b∈ks):decide ((jV ks a:Int)<(jV ks b:Int))=U7 a b:=by
 cases h:U7 a b with
 | true=>exact decide_eq_true (by have:=ze ha h;lia)
 | false =>
  refine decide_eq_false fun z=>?_
  cases h2:U7 b a with
  | true=>have:=ze hb h2;lia
  | false=>rw[ur h h2] at z;lia
section
variable {prog:j7}{w:u9}{A:A8}{E:b9->d9->Prop}{s:d9}
noncomputable def Z9 (h:Heap) (v:b9) (ns:List Int):Prop:=∃(a:Addr) (us:List b9),v=.ref a/\xj h a us.toArray/\az us ns
theorem uD:∀{us:List b9}{ns:List Int}{j:Nat}{v:b9},az us ns->us[j]?=some v->∃t,v=oU (ns.getD j 0) t
 | _,_,0,v,.cons _ _ _,e=>by cases e;exact ⟨_,rfl⟩
 | _,_,j+1,v,.cons _ _ t,e=>by
  obtain ⟨t',h⟩:=uD (j:=j) t (by simpa using e)
  exact ⟨t',by rw[h];rfl⟩
theorem uC:∀{us:List b9}{ns:List Int},az us ns->us.length=ns.length
 | _,_,.nil=>rfl
 | _,_,.cons _ _ t=>by rw[m9,m9,uC t]
theorem zE:∀{us:List b9}{ns ms:List Int},az us ns->az us ms->ns=ms
 | _,_,_,.nil,.nil=>rfl
 | _,_,_,.cons _ _ t,.cons _ _ u=>by rw[zE t u]
variable {ns ms:List Int}
theorem Z9.eq {p q:b9}(h1:Z9 s.heap p ns) (h2:Z9 s.heap q ms) (hu:A.units<fA) (hne:ns≠ms):BU A s p q false:=by
 obtain ⟨a,us,rfl,⟨oa,ha,hca,na,hda⟩,i1⟩:=h1
 obtain ⟨b,vs,rfl,⟨ob,hb,hcb,nb,hdb⟩,i2⟩:=h2
 have l1:=uC i1
 have l2:=uC i2
 by_cases hab:a=b
 ·subst hab
  rw[ha] at hb
  cases hb
  rw[hda] at hdb
  injection hdb with e1 _
  have e2:us=vs:=by simpa using e1
  subst e2
  exact absurd (zE i1 i2) hne
 ·have:=SeqAt.EqAt.of_refs hab (SeqAt.RcAt.tuples (A:=A) (e:=fun j=>decide (ns.getD j 0=ms.getD j 0)) ⟨oa,ha,hca,na,hda⟩ ⟨ob,hb,hcb,nb,hdb⟩ hu fun j h1 h2=>by
   have h1':j<us.length:=by simpa using h1
   have h2':j<vs.length:=by simpa using h2
   obtain ⟨t,ex⟩:=uD i1 (f7 h1')
   obtain ⟨u,ey⟩:=uD i2 (f7 h2')
   have e1:us.toArray[j]=.int (ns.getD j 0) t:=by rw[BF];exact ex
   have e2:vs.toArray[j]=.int (ms.getD j 0) u:=by rw[BF];exact ey
   rw[e1,e2]
   have e3:decide (ns.getD j 0=ms.getD j 0)=(ns.getD j 0 == ms.getD j 0):=by rw[aK];simp
   rw[e3]
   exact xg _ t _ u)
  have e:((J9 (min us.toArray.size vs.toArray.size)).all (fun j=>decide (ns.getD j 0=ms.getD j 0))&&us.toArray.size == vs.toArray.size)=false:=by
   rw[Bool.eq_false_iff]
   intro z
   rw[y6,rh,beq_iff_eq,q9,q9] at z
   refine hne (List.ext_getElem (by lia) fun i h1 h2=>?_)
   have:=of_decide_eq_true (z.1 i (List.mem_range.mpr (by lia)))
   rw[A2,A2,f7 h1,f7 h2] at this
   exact this
  rw[e] at this
  exact this
theorem Z9.lt {p q:b9}(h1:Z9 s.heap p ns) (h2:Z9 s.heap q ms) (hu:A.units<fA) {Q:b9->d9->Prop} (hq:Q (.bool (U7 ns ms)) s):j6 (r6 prog w) A (T6 .Lt p q) Q E s:=by
 obtain ⟨a,us,rfl,ta,i1⟩:=h1
 obtain ⟨b,vs,rfl,tb,i2⟩:=h2
 exact HT.yu ta tb i1 i2 hu hq
theorem vU {x y:Addr}{p1 p2 q1 q2:b9}{n k:Nat}{ox oy:Obj}{Q:Bool->d9->Prop} (hx:s.heap.get? x=some ox) (dx:ox.data=.seq #[p1,q1] n) (hy:s.heap.get? y=some oy) (dy:oy.data=.seq #[p2,q2] k)
  (h1:Z9 s.heap p1 ns) (h2:Z9 s.heap p2 ms) (hsame:ns=ms->p1=p2/\q1=q2) (hu:A.units<fA) (hq:Q (U7 ns ms) s):j6 (r6 prog w) A (keyLt' (tuples' false) (.ref x) (.ref y)) Q E s:=by
 refine W.kat_lt hx dx hy dy ?_
 by_cases hne:ns=ms
 ·obtain ⟨rfl,rfl⟩:=hsame hne
  rw[hne,uv] at hq
  refine Ht (An p1 prog w _ _ (W.kat_yes (Ht (An q1 prog w _ _ (W.kat_yes (W.kat_nil ?_))))))
  exact hq
 ·refine Ht (Z9.eq (A:=A) h1 h2 hu hne prog w _ _ (W.kat_no ?_))
  rw[P3]
  exact W.kat_one p1 p2 (Z9.lt h1 h2 hu hq)
end
noncomputable def kz (k:List S6):List Int:=k.map fun z=>match z with | .inl i=>i | .inr _=>0
theorem uy (ns:List Int):kz (ns.map S0)=ns:=by
 unfold kz
 rw[R8]
 exact BD _
noncomputable def BI (as:List Addr) (kvs:List (List S6 × V)) (ks:List (List Int)):b9->Int
 | .ref a=>((as.zip kvs).lookup a).elim 0 fun t=>(jV ks (kz t.1):Int)
 | _=>0
section
variable {X:Cx}{H:Hp}
theorem sJ {P:j7}{w:u9}{h:Heap}{q:Addr}{ms:List Int} (ok:cG P w H h) (e:H q=some (.tup (ms.map V.int))):Z9 h (.ref q) ms:=by
 obtain ⟨_,its,r,t⟩:=(show M9 P w H h q (.tup (ms.map V.int)) from ok q _ e)
 exact ⟨q,its,rfl,t,qK r⟩
theorem Z9.keep {h h':Heap}{v:b9}{ns:List Int} (x:Z9 h v ns) (k:∀a o,v=.ref a->h.get? a=some o->h'.get? a=some o):Z9 h' v ns:=by
 obtain ⟨a,us,e,⟨o,ho,r⟩,i⟩:=x
 exact ⟨a,us,e,⟨o,k a o e ho,r⟩,i⟩
end
section
variable {X:Cx}{H:Hp}
theorem sv:∀{as:List Addr}{its:List b9},K4 (as.map V.ref) its->its=as.map n5
 | [],its,r=>by cases r;rfl
 | a::as,its,r=>by
  cases r with
  | cons r1 rr =>
   cases r1
   rw[sv rr];rfl
theorem vP {H:Hp}:∀{kvs:List (List S6 × V)}{ys:List V},rm H kvs ys->∃as:List Addr,ys=as.map V.ref
 | [],[],_=>⟨[],rfl⟩
 | (k,x)::kvs,y::ys,h=>by
  obtain ⟨p,ka,e,_⟩:=h.1
  obtain ⟨as,e2⟩:=vP h.2
  exact ⟨p::as,by rw[e,e2];rfl⟩
 | [],_::_,h=>h.elim
 | _::_,[],h=>h.elim
noncomputable def yC (h:Heap) (a:Addr):b9:=match h.get? a with
 | some o=>(match o.data with | .seq xs _=>xs.getD 0 .none|_=>.none)
 | none=>.none
theorem sL {h:Heap}{a:Addr}{o:Obj}{f g:b9}{n:Nat} (e:h.get? a=some o) (d:o.data=.seq #[f,g] n):yC h a=f:=by
 unfold yC
 rw[e]
 dsimp only
 rw[d];rfl
theorem wg {h:Heap}:∀{as:List Addr},(∀(j:Nat) (a:Addr),as[j]?=some a->∃(o:Obj) (f g:b9) (n:Nat),h.get? a=some o/\o.cls=.type "tuple"/\o.data=.seq #[f,g] n)->W.KatTups h (as.map n5) (as.map (yC h))
 | [],_=>EG
 | a::as,hh=>by
  obtain ⟨o,f,g,n,e1,e2,e3⟩:=hh 0 a rfl
  exact BR e1 e2 e3 (by rw[sL e1 e3];rfl) (wg fun j b hb=>hh (j+1) b (by simpa using hb))
noncomputable def Iu (K:m6):List V->Hp->VK->Prop:=fun xs H Q=>∃(p:Addr) (ys:List V) (kvs:List (List S6 × V)),xs=[.ref p]/\dP K H p ys/\rm H kvs ys/\kvs.length<128 /\
 (∀kx∈kvs,∃ns:List Int,kx.1=ns.map S0)/\(kvs.map fun t=>kz t.1).Nodup /\
 ∀(D:Addr) (ys':List V) (kvs':List (List S6 × V)) (H':Hp),kvs'.Perm kvs->(kvs'.map fun t=>kz t.1).Pairwise (fun a b=>HT.U7 b a=false)->i8 H H'->H' D=some (.lst ys')->rm H' kvs' ys'->Q (.ref D) H'
theorem yF (hu:X.A.units+64<fA):bE X (.builtin "sorted") (Iu X.K):=by
 intro pins s σ H xs us Q I rr h
 obtain ⟨p,ys,kvs,rfl,hp,hPr,h128,hkx,hndk,q⟩:=h
 cases rr with
 | cons r1 rr =>
  cases rr
  cases r1
  obtain ⟨as,rfl⟩:=vP hPr
  obtain ⟨its,rv',hl,hz⟩:=I.list hp
  have eits:=sv rv'
  subst eits
  have hl':as.length=kvs.length:=by have:=hPr.len;rw[d8] at this;exact this.symm
  have ent:∀(j:Nat) (a:Addr),as[j]?=some a->∃(k:List S6) (x:V) (ka:Addr),kvs[j]?=some (k,x)/\H a=some (.tup [.ref ka,x])/\H ka=some (.tup ((kz k).map V.int))/\H ka=some (.tup (k.map kV)):=fun j a ha=>by
   obtain ⟨k,x,p',ka,e1,e2,e3,e4⟩:=hPr.get (i:=j) (y:=.ref a) (by rw[w5,ha];rfl)
   cases e2
   obtain ⟨ns,en⟩:=hkx (k,x) (m8 e1)
   have en':k=ns.map S0:=en
   refine ⟨k,x,ka,e1,e3,?_,e4⟩
   rw[en',uy]
   rw[en',zB] at e4
   exact e4
  have hnd:as.Nodup:=by
   refine List.pairwise_iff_getElem.mpr fun i j hi hj hij he=>?_
   obtain ⟨a,ha⟩:∃a,as[j]?=some a:=⟨as[j],f7 hj⟩
   obtain ⟨k1,x1,ka1,e1,e2,e3,_⟩:=ent i a (by rw[<- ha,f7 hi,f7 hj,he])
   obtain ⟨k2,x2,ka2,f1,f2,f3,_⟩:=ent j a ha
   rw[e2] at f2
   cases f2
   rw[e3] at f3
   injection f3 with f3
   injection f3 with f3
   have ek:kz k1=kz k2:=(List.map_inj_right fun x y e=>by injection e).mp f3
   have hi':=(List.getElem?_eq_some_iff.mp e1).1
   have hj':=(List.getElem?_eq_some_iff.mp f1).1
   have:i=j:=by
    refine (iQ (h₀:=by rw[d8];exact hi') (h₁:=by rw[d8];exact hj') hndk).mp ?_
    rw[bF,bF,(List.getElem?_eq_some_iff.mp e1).2,(List.getElem?_eq_some_iff.mp f1).2]
    exact ek
   lia
  refine uZ kind_sorted plain_sorted entry_sorted (args_sorted1 _) ?_
  unfold cg.«sorted»
  refine b7 (m:=checkCount "sorted" 1 1 _) (d6 ?_)
  refine b7 (collect_list hl.isList ?_ (by rw[d8,X6];lia))
  refine b7 (BJ ?_ (by rw[d8,X6];lia))
  obtain ⟨h',eh'⟩:∃h',h'=(s.heap.push (bA "list" #[] 0)).update s.heap.objs.size (X3 (·++(as.map n5).toArray)):=⟨_,rfl⟩
  rw[<- eh']
  have hsz:h'.objs.size=s.heap.objs.size+1:=by rw[eh',iT,size_push']
  have k1:∀b o,s.heap.get? b=some o->h'.get? b=some o:=fun b o q=>by
   have hlt:b<s.heap.objs.size:=i5 q
   rw[eh',Heap.get?_update_ne _ _ _ _ (n0 hlt),Heap.get?_push_ne _ _ _ (n0 hlt)]
   exact q
  have hB:(h'.push (bA "list" (as.map n5).toArray 0)).get? h'.objs.size=some (bA "list" (as.map n5).toArray 0):=j9 _ rfl
  have k2:∀b o,s.heap.get? b=some o->(h'.push (bA "list" (as.map n5).toArray 0)).get? b=some o:=fun b o e=>d7 _ (k1 b o e)
  have lt1:∀b o,s.heap.get? b=some o->b≠h'.objs.size:=fun b o e=>by
   have:=i5 e
   rw[hsz]
   exact n0 (M0 this)
  show j6 _ _ _ _ _ { s with heap:=h'.push (bA "list" (as.map n5).toArray 0) }
  refine b7 (L8 (D5 slot_list_sort ⟨_,hB,rfl⟩ entry_list_sort ?body (args_list_sort _)))
  obtain ⟨ks,eks⟩:∃ks:List (List Int),ks=kvs.map fun t=>kz t.1:=⟨_,rfl⟩
  have rvE:∀(j:Nat) (a:Addr) (k:List S6) (x:V),as[j]?=some a->kvs[j]?=some (k,x)->BI as kvs ks (.ref a)=(jV ks (kz k):Int):=fun j a k x h1 h2=>by
   show ((as.zip kvs).lookup a).elim 0 (fun t=>(jV ks (kz t.1):Int))=_
   rw[ij hnd h1 h2];rfl
  have ksM:∀(j:Nat) (k:List S6) (x:V),kvs[j]?=some (k,x)->kz k∈ks:=fun j k x h1=>by
   rw[eks]
   exact List.mem_map.mpr ⟨(k,x),m8 h1,rfl⟩
  have obj:∀(j:Nat) (a:Addr),as[j]?=some a->∃(k:List S6) (x:V) (f g:b9) (o:Obj) (n:Nat),kvs[j]?=some (k,x)/\s.heap.get? a=some o/\o.cls=.type "tuple"/\o.data=.seq #[f,g] n/\Z9 s.heap f (kz k):=fun j a ha=>by
   obtain ⟨k,x,ka,e1,e2,e3,_⟩:=ent j a ha
   obtain ⟨_,vs2,r2,o,ho,hc,n,hd⟩:=(show M9 X.prog X.w H s.heap a (.tup [.ref ka,x]) from I.hok a _ e2)
   cases r2 with
   | cons r21 r22 =>
    cases r22 with
    | cons r23 r24 =>
     cases r24
     cases r21
     exact ⟨k,x,_,_,o,n,e1,ho,hc,hd,sJ I.hok e3⟩
  refine So.sm (rv:=BI as kvs ks) (s:={ s with heap:=h'.push (bA "list" (as.map n5).toArray 0) }) (vs:=as.map n5) hB (by rw[d8,hl'];exact h128) (fun h2 h1 kp=>?_) (fun h5 vs' c' hpm hup kp hB5=>?_)
  ·have k4:∀b o,s.heap.get? b=some o->h1.get? b=some o:=fun b o e=>kp b o (lt1 b o e) (k2 b o e)
   have obj1:∀(j:Nat) (a:Addr),as[j]?=some a->∃(k:List S6) (x:V) (f g:b9) (o:Obj) (n:Nat),kvs[j]?=some (k,x)/\s.heap.get? a=some o/\h1.get? a=some o/\o.cls=.type "tuple"/\o.data=.seq #[f,g] n/\Z9 h1 f (kz k):=fun j a ha=>by
    obtain ⟨k,x,f,g,o,n,e1,e2,e3,e4,e5⟩:=obj j a ha
    exact ⟨k,x,f,g,o,n,e1,e2,k4 _ _ e2,e3,e4,e5.keep fun b o _ q=>k4 b o q⟩
   rw[d8] at h2
   refine W.kat_kind (T:=.type "tuple") (wg (as:=as) fun j a ha=>?_) (by rw[d8];lia) (fun f hf=>?_) (by decide) ⟨rfl,fun x y hx hy Q hQ=>?_⟩
   ·obtain ⟨k,x,f,g,o,n,_,_,e2,e3,e4,_⟩:=obj1 j a ha
    exact ⟨o,f,g,n,e2,e3,e4⟩
   ·obtain ⟨a,ha,rfl⟩:=List.mem_map.mp hf
    obtain ⟨j,hj⟩:=List.mem_iff_getElem?.mp ha
    obtain ⟨k,x,f,g,o,n,_,_,e2,e3,e4,t1⟩:=obj1 j a hj
    rw[sL e2 e4]
    obtain ⟨b,us,eb,⟨ob,hob,hcb,_⟩,_⟩:=t1
    rw[eb]
    exact W.kitAt_ty _ _ ⟨ob,hob,hcb⟩
   ·obtain ⟨x1,x2⟩:=x
    obtain ⟨y1,y2⟩:=y
    dsimp only at hx hy hQ ⊢
    obtain ⟨ax,hax,rfl⟩:=List.mem_map.mp hx
    obtain ⟨ay,hay,rfl⟩:=List.mem_map.mp hy
    obtain ⟨i,hi⟩:=List.mem_iff_getElem?.mp hax
    obtain ⟨j,hj⟩:=List.mem_iff_getElem?.mp hay
    obtain ⟨k1',z1,f1,g1,o1,n1,g1',g1'',e2,_,e2d,t1⟩:=obj1 i ax hi
    obtain ⟨k2',z2,f2,g2,o2,n2,g2',g2'',e3,_,e3d,t3⟩:=obj1 j ay hj
    have eR:decide (BI as kvs ks (.ref ax)<BI as kvs ks (.ref ay))=HT.U7 (kz k1') (kz k2'):=by
     rw[<- kZ (ksM i k1' z1 g1') (ksM j k2' z2 g2')]
     simp only[rvE i ax k1' z1 hi g1',rvE j ay k2' z2 hj g2']
    replace hQ:Q (decide (BI as kvs ks (.ref ax)<BI as kvs ks (.ref ay))) _:=hQ
    rw[eR] at hQ
    refine vU e2 e2d e3 e3d t1 t3 (fun e=>?_) (by show X.A.units+1+1<fA;lia) hQ
    have hij:i=j:=by
     have hi':=(List.getElem?_eq_some_iff.mp g1').1
     have hj':=(List.getElem?_eq_some_iff.mp g2').1
     refine (iQ (h₀:=by rw[d8];exact hi') (h₁:=by rw[d8];exact hj') hndk).mp ?_
     rw[bF,bF]
     rw[(List.getElem?_eq_some_iff.mp g1').2,(List.getElem?_eq_some_iff.mp g2').2]
     exact e
    subst hij
    rw[hi] at hj
    cases hj
    rw[e2] at e3
    cases e3
    rw[e2d] at e3d
    injection e3d with q1 _
    have q2:[f1,g1]=[f2,g2]:=by simpa using q1
    injection q2 with q3 q4
    injection q4 with q5 _
    exact ⟨q3,q5⟩
  ·refine ⟨_,rfl,d6 ⟨_,rfl,?_⟩⟩
   have eL:as.map n5=(as.zip kvs).map fun t=>n5 t.1:=by
    have:(as.zip kvs).map (fun t=>n5 t.1)=((as.zip kvs).map Prod.fst).map n5:=by rw[R8];rfl
    rw[this,Gs (by lia)]
   rw[eL] at hpm
   obtain ⟨L',hL,eL'⟩:=hV hpm
   have k5:∀b o,s.heap.get? b=some o->h5.get? b=some o:=fun b o e=>kp b o (lt1 b o e) (k2 b o e)
   have mem:∀t∈L',∃j:Nat,as[j]?=some t.1/\kvs[j]?=some t.2:=fun t ht=>by
    have h1:=hL.mem_iff.mp ht
    obtain ⟨j,hj⟩:=List.mem_iff_getElem?.mp h1
    rw[vj] at hj
    exact ⟨j,hj.1,hj.2⟩
   have J:=I.lays (N:=fun b=>if b=h'.objs.size then some (.lst (L'.map fun t=>V.ref t.1)) else none) (h':=h5) (t':=s.toks) k5 (fun b o hb e=>?_)
   ·refine ⟨.ref h'.objs.size,_,J,rfl,q _ _ _ _ ?_ ?_ (fun b o e=>?_) ?_ (rm.mk (L:=L') fun t ht=>?_)⟩
    ·have:=hL.map Prod.snd
     rw[rg (by lia)] at this
     exact this
    ·rw[R8,de]
     rw[eL',de] at hup
     refine fe ?_ hup
     intro t u ht hu' hle
     obtain ⟨i,hi1,hi2⟩:=mem t ht
     obtain ⟨j,hj1,hj2⟩:=mem u hu'
     rw[rvE i t.1 t.2.1 t.2.2 hi1 hi2,rvE j u.1 u.2.1 u.2.2 hj1 hj2] at hle
     have:=kZ (ksM j u.2.1 u.2.2 hj2) (ksM i t.2.1 t.2.2 hi2)
     rw[decide_eq_false (by lia)] at this
     exact this.symm
    ·show (if b<s.heap.objs.size then H b else _)=some o
     rw[if_pos (I.hok.lt e)];exact e
    ·show (if h'.objs.size<s.heap.objs.size then H h'.objs.size else (if h'.objs.size=h'.objs.size then _ else _))=_
     rw[if_neg (by rw[hsz];exact ef (Y9 _)),if_pos rfl]
    ·obtain ⟨j,h1,h2⟩:=mem t ht
     obtain ⟨k,x,ka,e1,e2,e3,e4⟩:=ent j t.1 h1
     rw[h2] at e1
     have ht2:t.2=(k,x):=C1 e1
     refine ⟨ka,?_,?_⟩
     ·show (if t.1<s.heap.objs.size then H t.1 else _)=_
      rw[if_pos (I.hok.lt e2),ht2];exact e2
     ·show (if ka<s.heap.objs.size then H ka else _)=_
      rw[if_pos (I.hok.lt e4),ht2];exact e4
   ·by_cases hbB:b=h'.objs.size
    ·rw[if_pos hbB] at e
     cases e
     have hv':∀L:List (Addr × (List S6 × V)),K4 (L.map fun t=>V.ref t.1) (L.map fun t=>n5 t.1):=fun L=>by
      induction L with
      | nil=>exact .nil
      | cons t L ih=>exact .cons rfl ih
     refine ⟨?_,L'.map (fun t=>n5 t.1),c',hv' L',?_⟩
     ·rw[d8,hL.length_eq,HH,X6];lia
     ·rw[hbB,hB5,eL']
    ·rw[if_neg hbB] at e
     cases e
end
end L2
namespace L2
open PySem PySem.Spec PyProof.Rows
section
variable {X:Cx}
noncomputable def Iv:List V->Hp->VK->Prop:=fun xs H Q=>∃v d kvs,xs=[.ref v]/\H v=some (nU v d)/\H d=some (.dT kvs)/\kvs.length<128 /\
 (∀kx∈kvs,(∃ns:List Int,kx.1=ns.map S0)/\∃(q:Addr) (ms:List Int),kx.2=.ref q/\H q=some (.tup (ms.map V.int)))/\(kvs.map fun t=>kz t.1).Nodup /\
 ∀(D:Addr) (ys:List V) (kvs':List (List S6 × V)) (H':Hp),H D=none->kvs'.Perm kvs->(kvs'.map fun t=>kz t.1).Pairwise (fun a b=>HT.U7 b a=false)->i8 H H'->H' D=some (.lst ys)->rm H' kvs' ys->Q (.ref D) H'
theorem yG (hc:X.calm=true) (hu:X.A.units+64<fA):bE X (.builtin "sorted") Iv:=by
 intro pins s σ H xs us Q I rr h
 obtain ⟨v,d,kvs,rfl,hv,hd,h64,hkx,hndk,q⟩:=h
 cases rr with
 | cons r1 rr =>
  cases rr
  cases r1
  have hh:X.A.handled=none:=I.ok.hd hc
  obtain ⟨hvw,_,_⟩:=(show M9 X.prog X.w H s.heap v (nU v d) from I.hok v _ hv)
  obtain ⟨_,_,xs,rel,o,es,ep,ho,hex,hdd,hes,_⟩:=(show M9 X.prog X.w H s.heap d (.dT kvs) from I.hok d _ hd)
  have hsz:es.size=kvs.length:=by rw[<- D9,hes,d8];exact (dM rel).symm
  have hent:∀(j:Nat) (k:List S6) (x:V),kvs[j]?=some (k,x)->∃(ka:Addr) (en:M4),es[j]?=some en/\en.key=.ref ka/\H ka=some (.tup (k.map kV))/\K2 x en.val:=fun j k x hj=>by
   obtain ⟨qq,hq,f1,f2,f3⟩:=Paired.get rel hj
   refine ⟨qq.2.1,JV (dE (U6 X.prog X.w)) qq,?_,rfl,f2,f3⟩
   rw[<- aM,hes,w5,hq];rfl
  have sl:i0=i0:=rfl
  refine uZ kind_sorted plain_sorted entry_sorted (args_sorted1 _) ?_
  unfold cg.«sorted»
  refine b7 (m:=checkCount "sorted" 1 1 _) (d6 ?_)
  refine b7 (rP (A:=X.A.in1) hh ⟨_,hvw,rfl,rfl⟩ ho hdd (by rw[hsz,X6];lia) fun h' tk as hzz k1 hl hnd hab hG=>?_)
  have hl':as.length=kvs.length:=by rw[hl,hsz]
  refine b7 (BJ ?_ (by rw[d8,hl',X6];lia))
  have hB:(h'.push (bA "list" (as.map n5).toArray 0)).get? h'.objs.size=some (bA "list" (as.map n5).toArray 0):=j9 _ rfl
  have k2:∀b o,s.heap.get? b=some o->(h'.push (bA "list" (as.map n5).toArray 0)).get? b=some o:=fun b o e=>d7 _ (k1 b o e)
  have alt:∀a∈as,a<h'.objs.size:=fun a ha=>by
   obtain ⟨j,hj⟩:=List.mem_iff_getElem?.mp ha
   obtain ⟨en,_,e2⟩:=hG j a hj
   exact i5 e2
  show j6 _ _ _ _ _ { s with heap:=h'.push (bA "list" (as.map n5).toArray 0),toks:=tk }
  have nB:∀b,b<h'.objs.size->b≠h'.objs.size:=fun b hb=>n0 hb
  refine b7 (L8 (D5 slot_list_sort ⟨_,hB,rfl⟩ entry_list_sort ?body (args_list_sort _)))
  have ent:∀(j:Nat) (a:Addr),as[j]?=some a->∃(en:M4) (k:List S6) (x:V) (ka:Addr),es[j]?=some en/\kvs[j]?=some (k,x)/\h'.get? a=some { cls:=.type "tuple",data:=.seq #[en.key,en.val] }/\en.key=.ref ka/\H ka=some (.tup (k.map kV))/\K2 x en.val/\Z9 s.heap en.key (kz k)/\Br s.heap en.val:=fun j a ha=>by
   obtain ⟨en,e1,e2⟩:=hG j a ha
   have hj:j<kvs.length:=by rw[<- hl'];exact (List.getElem?_eq_some_iff.mp ha).1
   obtain ⟨ka,en',e3,e4,e5,e6⟩:=hent j (kvs[j]).1 (kvs[j]).2 (f7 hj)
   rw[e1] at e3
   cases e3
   obtain ⟨⟨ns,en1⟩,qa,ms,en2,hq⟩:=hkx kvs[j] (K9 hj)
   refine ⟨en,_,_,ka,e1,f7 hj,e2,e4,e5,e6,?_,?_⟩
   ·rw[e4]
    rw[en1,zB] at e5
    have en1':(kvs.get ⟨j,hj⟩).1=ns.map S0:=en1
    show Z9 _ _ (kz (kvs.get ⟨j,hj⟩).1)
    rw[en1',uy]
    exact sJ I.hok e5
   ·rw[en2] at e6
    rw[show en.val=.ref qa from e6]
    exact FV I.hok hq
  have lt1:∀b o,s.heap.get? b=some o->b≠h'.objs.size:=fun b o e=>n0 (Mu (i5 e) hzz)
  obtain ⟨ks,eks⟩:∃ks:List (List Int),ks=kvs.map fun t=>kz t.1:=⟨_,rfl⟩
  have rvE:∀(j:Nat) (a:Addr) (k:List S6) (x:V),as[j]?=some a->kvs[j]?=some (k,x)->BI as kvs ks (.ref a)=(jV ks (kz k):Int):=fun j a k x h1 h2=>by
   show ((as.zip kvs).lookup a).elim 0 (fun t=>(jV ks (kz t.1):Int))=_
   rw[ij hnd h1 h2];rfl
  have ksM:∀(j:Nat) (k:List S6) (x:V),kvs[j]?=some (k,x)->kz k∈ks:=fun j k x h1=>by
   rw[eks]
   exact List.mem_map.mpr ⟨(k,x),m8 h1,rfl⟩
  refine So.sm (rv:=BI as kvs ks) (s:={ s with heap:=h'.push (bA "list" (as.map n5).toArray 0),toks:=tk }) (vs:=as.map n5) hB (by rw[d8,hl'];exact h64) (fun h2 h1 kp=>?_) (fun h5 vs' c' hp hup kp hB5=>?_)
  ·have k4:∀b o,s.heap.get? b=some o->h1.get? b=some o:=fun b o e=>kp b o (lt1 b o e) (k2 b o e)
   have ent1:∀(j:Nat) (a:Addr),as[j]?=some a->∃(en:M4) (k:List S6) (x:V),es[j]?=some en/\kvs[j]?=some (k,x)/\h1.get? a=some { cls:=.type "tuple",data:=.seq #[en.key,en.val] }/\Z9 h1 en.key (kz k)/\Br h1 en.val:=fun j a ha=>by
    obtain ⟨en,k,x,ka,e1,e1',e2,_,_,_,t1,t2⟩:=ent j a ha
    exact ⟨en,k,x,e1,e1',kp _ _ (nB a (alt a (m8 ha))) (d7 _ e2),t1.keep fun b o _ q=>k4 b o q,t2.keep fun b o _ q=>k4 b o q⟩
   have hlen:as.length=(es.toList.map EK).length:=by rw[hl,d8,D9]
   rw[d8] at h2
   refine W.kat_kind (T:=.type "tuple") (qG (fs:=es.toList.map EK) (fun j a ha=>?_) hlen) (by rw[<- hlen];lia) (fun f hf=>?_) (by decide) ⟨rfl,fun x y hx hy Q hQ=>?_⟩
   ·obtain ⟨en,k,x,e1,_,e2,_,_⟩:=ent1 j a ha
    exact ⟨en.key,en.val,by rw[w5,aM,e1];rfl,e2⟩
   ·obtain ⟨j,hj⟩:=List.mem_iff_getElem?.mp hf
    rw[w5,aM] at hj
    obtain ⟨en,e1,e2⟩:=Option.map_eq_some_iff.mp hj
    have hjl:j<as.length:=by rw[hl];exact (Array.getElem?_eq_some_iff.mp e1).1
    obtain ⟨en',k',x',e3,_,_,t1,_⟩:=ent1 j as[j] (f7 hjl)
    rw[e1] at e3
    cases e3
    rw[<- e2]
    obtain ⟨b,us,eb,⟨ob,hob,hcb,_⟩,_⟩:=t1
    rw[eb]
    exact W.kitAt_ty _ _ ⟨ob,hob,hcb⟩
   ·obtain ⟨x1,x2⟩:=x
    obtain ⟨y1,y2⟩:=y
    dsimp only at hx hy hQ ⊢
    obtain ⟨ax,hax,rfl⟩:=List.mem_map.mp hx
    obtain ⟨ay,hay,rfl⟩:=List.mem_map.mp hy
    obtain ⟨i,hi⟩:=List.mem_iff_getElem?.mp hax
    obtain ⟨j,hj⟩:=List.mem_iff_getElem?.mp hay
    obtain ⟨en1,k1',z1,f1,g1,e2,t1,t2⟩:=ent1 i ax hi
    obtain ⟨en2,k2',z2,f2,g2,e3,t3,t4⟩:=ent1 j ay hj
    have eR:decide (BI as kvs ks (.ref ax)<BI as kvs ks (.ref ay))=HT.U7 (kz k1') (kz k2'):=by
     rw[<- kZ (ksM i k1' z1 g1) (ksM j k2' z2 g2)]
     simp only[rvE i ax k1' z1 hi g1,rvE j ay k2' z2 hj g2]
    replace hQ:Q (decide (BI as kvs ks (.ref ax)<BI as kvs ks (.ref ay))) _:=hQ
    rw[eR] at hQ
    refine vU e2 rfl e3 rfl t1 t3 (fun e=>?_) (by show X.A.units+1+1<fA;lia) hQ
    have hij:i=j:=by
     have hi':=(List.getElem?_eq_some_iff.mp g1).1
     have hj':=(List.getElem?_eq_some_iff.mp g2).1
     refine (iQ (h₀:=by rw[d8];exact hi') (h₁:=by rw[d8];exact hj') hndk).mp ?_
     rw[bF,bF]
     have q1:=(List.getElem?_eq_some_iff.mp g1).2
     have q2:=(List.getElem?_eq_some_iff.mp g2).2
     rw[q1,q2]
     exact e
    subst hij
    rw[f1] at f2
    cases f2
    exact ⟨rfl,rfl⟩
  ·refine ⟨_,rfl,d6 ⟨_,rfl,?_⟩⟩
   have eL:as.map n5=(as.zip kvs).map fun t=>n5 t.1:=by
    have:(as.zip kvs).map (fun t=>n5 t.1)=((as.zip kvs).map Prod.fst).map n5:=by rw[R8];rfl
    rw[this,Gs (by lia)]
   rw[eL] at hp
   obtain ⟨L',hL,eL'⟩:=hV hp
   have k5:∀b o,s.heap.get? b=some o->h5.get? b=some o:=fun b o e=>kp b o (lt1 b o e) (k2 b o e)
   have mem:∀t∈L',∃j:Nat,as[j]?=some t.1/\kvs[j]?=some t.2:=fun t ht=>by
    have h1:=hL.mem_iff.mp ht
    obtain ⟨j,hj⟩:=List.mem_iff_getElem?.mp h1
    rw[vj] at hj
    exact ⟨j,hj.1,hj.2⟩
   obtain ⟨objs,eo⟩:∃objs:List HO,objs=(es.toList.zip kvs).map fun t=>HO.tup [.ref (match t.1.key with | .ref a=>a|_=>0),t.2.2]:=⟨_,rfl⟩
   have oget:∀(j:Nat) (en:M4) (k:List S6) (x:V) (ka:Addr),es[j]?=some en->kvs[j]?=some (k,x)->en.key=.ref ka->objs[j]?=some (.tup [.ref ka,x]):=fun j en k x ka h1 h2 h3=>by
    have hz:(es.toList.zip kvs)[j]?=some (en,(k,x)):=List.getElem?_zip_eq_some.mpr ⟨by rw[aM];exact h1,h2⟩
    rw[eo,w5,hz]
    show some (HO.tup [.ref (match en.key with | .ref a=>a|_=>0),x])=_
    rw[h3]
   have J:=I.lays (N:=fun b=>if b=h'.objs.size then some (.lst (L'.map fun t=>V.ref t.1)) else (as.zip objs).lookup b) (h':=h5) (t':=tk) k5 (fun b o hb e=>?_)
   ·refine ⟨.ref h'.objs.size,_,J,rfl,q _ _ _ _ (I.hok.fresh (aC hzz)) ?_ ?_ (fun b o e=>?_) ?_ (rm.mk (L:=L') fun t ht=>?_)⟩
    ·have:=hL.map Prod.snd
     rw[rg (by lia)] at this
     exact this
    ·rw[R8,de]
     rw[eL',de] at hup
     refine fe ?_ hup
     intro t u ht hu' hle
     obtain ⟨i,hi1,hi2⟩:=mem t ht
     obtain ⟨j,hj1,hj2⟩:=mem u hu'
     rw[rvE i t.1 t.2.1 t.2.2 hi1 hi2,rvE j u.1 u.2.1 u.2.2 hj1 hj2] at hle
     have:=kZ (ksM j u.2.1 u.2.2 hj2) (ksM i t.2.1 t.2.2 hi2)
     rw[decide_eq_false (by lia)] at this
     exact this.symm
    ·show (if b<s.heap.objs.size then H b else _)=some o
     rw[if_pos (I.hok.lt e)];exact e
    ·show (if h'.objs.size<s.heap.objs.size then H h'.objs.size else (if h'.objs.size=h'.objs.size then _ else _))=_
     rw[if_neg (ef (aC hzz)),if_pos rfl]
    ·obtain ⟨j,h1,h2⟩:=mem t ht
     obtain ⟨en,k,x,ka,e1,e2,_,e4,e5,_⟩:=ent j t.1 h1
     rw[h2] at e2
     have ht2:t.2=(k,x):=C1 e2
     have hm:=m8 h1
     refine ⟨ka,?_,?_⟩
     ·show (if t.1<s.heap.objs.size then H t.1 else (if t.1=h'.objs.size then _ else (as.zip objs).lookup t.1))=_
      rw[if_neg (ef (hab _ hm)),if_neg (nB _ (alt _ hm)),ht2]
      exact ij hnd h1 (oget j en k x ka e1 (by rw[h2,ht2]) e4)
     ·show (if ka<s.heap.objs.size then H ka else _)=_
      rw[if_pos (I.hok.lt e5),ht2];exact e5
   ·by_cases hbB:b=h'.objs.size
    ·rw[if_pos hbB] at e
     cases e
     have hv':∀L:List (Addr × (List S6 × V)),K4 (L.map fun t=>V.ref t.1) (L.map fun t=>n5 t.1):=fun L=>by
      induction L with
      | nil=>exact .nil
      | cons t L ih=>exact .cons rfl ih
     refine ⟨?_,L'.map (fun t=>n5 t.1),c',hv' L',?_⟩
     ·rw[d8,hL.length_eq,HH,X6];lia
     ·rw[hbB,hB5,eL']
    ·rw[if_neg hbB] at e
     obtain ⟨j,h1,h2⟩:=qz e
     obtain ⟨en,k,x,ka,e1,e2,e3,e4,e5,e6,_⟩:=ent j b h1
     rw[oget j en k x ka e1 e2 e4] at h2
     cases h2
     refine ⟨by show 2<=i0;decide,[en.key,en.val],.cons ?_ (.cons e6 .nil),⟨_,kp _ _ hbB (d7 _ e3),rfl,_,rfl⟩⟩
     exact e4
end
end L2
namespace G
open PySem PySem.Spec PyProof.Rows L2 Mt Md Mq
theorem nR:X1 "sorted"=some (bT "sorted"):=by decide +kernel
structure LM (st:Addr) (H:Hp) (n:Nat) (ns:List Int) (rs:List (List Int)) (k:Nat) (a:Addr) (v:V):Prop where
 u:Dt st H (DI ns) (.ref a)
 uu:Mt.jP n 20 ns
 r:Dt st H (DR rs) v
 ru:Mt.kF n 5 rs
 n1:1<=n
 n4:n<=4
 k6:k<=6
 l64:(nQ rs k [(ns,1)]).length<128
theorem vN {H:Hp}:∀{T:F0}{kvs:List (List S6 × V)},QE H T kvs->(kvs.map fun t=>kz t.1)=T.map (·.1)
 | [],[],_=>rfl
 | p::T,kv::kvs,h=>by
  obtain ⟨kk,x⟩:=kv
  have a:kk=Md.kI p.1:=h.1
  rw[A9,A9,vN h.2.2]
  congr 1
  show kz kk=p.1
  rw[a]
  exact uy p.1
 | [],_::_,h=>h.elim
 | _::_,[],h=>h.elim
noncomputable def LI (d e g:A7) (i:Nat):Prop:=(i=0/\cm 20 d=false) ∨ (i=1/\cm 20 d=true/\bQ (bt d) e=false) ∨ (i=5/\cm 20 d=true/\bQ (bt d) e=true/\Q8 0 6 g=false)
noncomputable def RefS (ec:Nat->Addr) (vs:List V) (H:Hp) (E:XK):Prop:=∃(st:Addr) (u v x:V) (d e g:A7) (i:Nat),vs=[u,v,x]/\Dt st H d u/\dB d/\Dt st H e v/\zl e/\Dt st H g x/\LI d e g i/\∀H',i8 H H'->E (.ref (ec i)) none H'
section
variable {P:j7}{w:u9}{K:m6}{mg:Str->Option b9}{base:Heap}{f:Addr}{fd:C5}{ec:Nat->Addr}{Bs:Addr}
noncomputable def HY:Sp:=fun vs H Q _=>∃(st a:Addr) (v:V) (n k:Nat) (ns:List Int) (rs:List (List Int)),vs=[.ref a,v,.int k]/\LM st H n ns rs k a v /\
 ∀D ys T' H',H D=none->i8 H H'->T'.Perm (nQ rs k [(ns,1)])->(T'.map (·.1)).Pairwise (fun a b=>HT.U7 b a=false)->H' D=some (.lst ys)->BQ H' T' ys->Q (.ref D) H'
noncomputable def vC (ec:Nat->Addr):Sp:=fun vs H Q E=>RefS ec vs H E ∨ HY vs H Q E
noncomputable abbrev Ii:Stmt:=gI 37
theorem yZ:D8 ["urn","rule","draws","chances","turn"] ["urn","rule","draws"] (w6 Ii):=⟨rfl,rfl,rfl,by decide +kernel,rfl,by decide +kernel,by decide +kernel⟩
theorem Ld (F:cH K "stands" "stands" Ii f fd) (B:Bt mg) (B3:Mf mg) (C2:Ct2 mg) (c1:iq P w K mg base 6 "need_urn_and_rule" ["urn","rule"] (xK ec)) (c2:iq P w K mg base 2 "need_number" ["thing","low","high"] (cu ec)) (c3:W5 P w K mg base 1 "own_urn" ["urn"] kl) (c4:W5 P w K mg base 4 "next_chances" ["chances","rule"] pI):O5 P w K mg base (lN P w) 7 f fd ["urn","rule","draws"] (vC ec):=by
 refine F.okX yZ (fun vs H Q E h=>?_) (fun cdv A outer s H vs Q E hr h=>?_)
 ·rcases h with ⟨st,u,v,x,d,e,g,i,rfl,_⟩|⟨st,a,v,n,k,ns,rs,rfl,_⟩
  ·rfl
  ·rfl
 obtain ⟨tw,hW⟩:=C2.stand
 refine ⟨_,m7 (jz (dh c1 hr rfl jB (b8 (pv 0) (b8 (pv 1) f6)))) (m7 (jz (dh (c2.up (by decide)) hr rfl jB (b8 (pv 2) (b8 i9 (b8 (Z5 (v:=.int 6) rfl hW ⟨tw,rfl⟩) f6)))))
  (rV.nox (m7 (F8 (i:=3) yZ.nd rfl (A5 rfl) (Di (lD hr) (B4 (c3.up (by decide)) hr rfl (b8 (pv 0) f6)) (C7 (b8 i9 (b8 i9 f6)))))
  (m7 (fq K3 rfl (S2 rfl B.range (b8 (pv 2) f6)) (W3 (i:=4) yZ.nd rfl (A5 rfl))
   (t6 (F8 (i:=3) yZ.nd rfl (A5 rfl) (B4 (c4.up (by decide)) hr rfl (b8 (pv 3) (b8 (pv 1) f6))))))
  (t6 (C6 (n9 (yG rfl hr.units) rfl B3.sorted nR (b8 (Dh (pv 3)) f6)))))))),?_⟩
 rcases h with ⟨st,u,v,x,d,e,g,i,rfl,hu,hus,hv,hvo,hx,due,q⟩|⟨st,a,v,n,k,ns,rs,rfl,hA,q⟩
 ·unfold LI at due
  refine ⟨_,rfl,_,rfl,u,v,st,d,e,rfl,hu,hus,hv,hvo,fun hw H1 g1=>?_,fun hw hw2 H1 g1=>?_,fun hw hw2 H1 g1=>?_⟩
  ·rcases due with ⟨rfl,_⟩|⟨_,z,_⟩|⟨_,z,_⟩
   ·exact q H1 g1
   all_goals (rw[hw] at z;cases z)
  ·rcases due with ⟨_,z⟩|⟨rfl,_⟩|⟨_,_,z,_⟩
   ·rw[hw] at z;cases z
   ·exact q H1 g1
   ·rw[hw2] at z;cases z
  ·rcases due with ⟨_,z⟩|⟨_,_,z⟩|⟨rfl,_,_,z⟩
   ·rw[hw] at z;cases z
   ·rw[hw2] at z;cases z
   ·exact ⟨_,rfl,x,st,g,0,6,rfl,hx.kp (g1.kp st),KA,Kz,(fun zt=>by rw[z] at zt;cases zt),fun _=>q H1 g1⟩
 ·have hU:=hA.uu
  have hR:=hA.ru
  have n1:=hA.n1
  have n4:=hA.n4
  have k6:=hA.k6
  obtain ⟨a',e,_,ha⟩:=hA.u.di
  cases e
  have uok:=Fp hU n1 n4
  have rok:bQ (bt (DI ns):Int) (DR rs)=true:=by rw[cA,hU.len];exact CS hR
  have hlen:=hR.len
  refine ⟨_,rfl,_,rfl,_,_,st,DI ns,DR rs,rfl,hA.u,kW (by rw[hU.len];lia),hA.r,⟨vF (by lia),su hR (by lia)⟩,(fun z=>by rw[uok] at z;cases z),(fun _ z=>by rw[rok] at z;cases z),fun _ _ H1 g1=>?_⟩
  have hwk:Q8 0 6 (.int (k:Int))=true:=by
   show (decide ((0:Int)<=(k:Int))&&decide ((k:Int)<=6))=true
   rw[decide_eq_true (by lia),decide_eq_true (by lia)];rfl
  refine ⟨_,rfl,_,st,.int k,0,6,rfl,Dt.int _ _ _,KA,Kz,(fun _=>?_),(fun z=>by rw[hwk] at z;cases z)⟩
  intro p hp
  have g2:i8 H1 (n8 H1 p (.dT [])):=i8.new hp
  have hp2:n8 H1 p (.dT []) p=some (.dT []):=f9
  have hHp:H p=none:=g1.free hp
  generalize n8 H1 p (.dT [])=H2 at g2 hp2
  refine ⟨_,rfl,a,_,rfl,g2 _ _ (g1 _ _ ha),fun b H3 g3 hb=>⟨(by show 2<=i0;decide),fun c hc=>?_⟩⟩
  have g4:i8 H3 (n8 H3 c (.tup [.int 1,.int 1])):=i8.new hc
  have hc4:n8 H3 c (.tup [.int 1,.int 1]) c=some (.tup [.int 1,.int 1]):=f9
  try dsimp -proj only
  generalize n8 H3 c (.tup [.int 1,.int 1])=H4 at g4 hc4
  have hp4:=g4 _ _ (g3 _ _ hp2)
  have hb4:=g4 _ _ hb
  have gg:i8 H H4:=((g1.trans g2).trans g3).trans g4
  refine ⟨hp4,b,kI ns,rfl,by rw[lC];exact hb4,?_⟩
  have ndt:∀(ps:List (List S6 × V)) xs,HO.dT ps≠.tup xs:=fun _ _ z=>by cases z
  have wo:=fun j hj=>nP hR n4 hU j hj
  refine ⟨_,rfl,(k:Int),rfl,by lia,by lia,?_⟩
  refine gx (lo:=0) (n:=k) (fun j σ H3=>i8 H H3/\j<=k/\∃p kvs o5,H p=none/\H3 p=some (.dT kvs)/\QE H3 (nQ rs j [(ns,1)]) kvs/\σ=[some (.ref a),some v,some (.int k),some (.ref p),o5])
   ⟨fun c o e=>by rw[A1 (v5 e hHp)];exact gg _ _ e,v8 _,p,_,none,hHp,f9,⟨rfl,⟨c,rfl,cW hp4 (ndt _) Kp.at _ _ hc4⟩,trivial⟩,rfl⟩ (fun j σ H3 hj h=>?_) (fun σ H3 h=>?_)
  ·obtain ⟨g3,hjk,p,kvs,o5,hpn,hp3,hq3,rfl⟩:=h
   obtain ⟨w1,w2,w3,w4⟩:=wo j (by lia)
   have hl:(nQ rs j [(ns,1)]).length<=1024:=j0 w4 (B1 (n:=4) (by decide) (show j<=5 by lia))
   have hj5:j<=5:=by lia
   have e1:LL ^ j<=2 ^ 1600:=j0 (yL j) (B1 (by decide) (by lia))
   have e2:4 ^ (j*j)<=2 ^ 60:=by
    have:j*j<=5*5:=E4 hj5 hj5
    exact j0 (B1 (by decide) this) (by decide)
   refine ⟨_,rfl,_,rfl,p,st,v,n,20+5*j,LL ^ j,4 ^ (j*j),_,kvs,rs,rfl,hp3,hq3,w1,by lia,hl,w3,uM j,e1,e2,hA.r.kp (g3.kp st),hR,n4,fun p' kvs' H4 k4 hp' h4 hq4=>?_⟩
   have g4:i8 H H4:=fun c o e=>k4 _ _ (v5 e hpn) (g3 _ _ e)
   exact ⟨g4,by lia,p',kvs',_,g3.free hp',h4,hq4,rfl⟩
  ·obtain ⟨g3,_,p,kvs,o5,hpn,hp3,hq3,rfl⟩:=h
   refine ⟨_,rfl,p,kvs,rfl,hp3,fun z hz=>?_⟩
   have g4:i8 H3 (n8 H3 z (nU z p)):=i8.new hz
   have hz4:n8 H3 z (nU z p) z=some (nU z p):=f9
   generalize n8 H3 z (nU z p)=H4 at g4 hz4
   have hq4:QE H4 (nQ rs k [(ns,1)]) kvs:=hq3.mono fun a xs e=>g4 _ _ e
   refine ⟨z,p,kvs,rfl,hz4,g4 _ _ hp3,by rw[hq4.len];exact hA.l64,hq4.keys,(by rw[vN hq4];exact (wo k k6).2.1),fun D ys kvs' H5 hfr hperm hsrt g5 hD hPr=>?_⟩
   obtain ⟨T',hT',hq5⟩:=hq4.perm hperm
   have hq6:QE H5 T' kvs':=hq5.mono fun a xs e=>g5 _ _ e
   rw[vN hq6] at hsrt
   exact q D ys T' H5 (g3.free (g4.free hfr)) (g3.trans (g4.trans g5)) hT' hsrt hD (BQ.of hq6 hPr)
end
end G
namespace L2
open PySem PySem.Spec PyProof.Rows
theorem we (K:m6) (d:A7):W.kitAny K (.type (HM d)) [.type "tuple",.type "list"]=some (jm d):=by cases d <;> kernel_rfl
section
variable {X:Cx}
theorem mR:bE X (.builtin "isinstance") (fun xs H Q=>∃x st d p,xs=[x,.ref p]/\Dt st H d x/\GJ d=true/\H p=some (.tup [.ty "tuple",.ty "list"])/\Q (.bl (jm d)) H):=by
 intro pins s σ H xs us Q I r h
 obtain ⟨x,st,d,p,rfl,hd,ok,hp,q⟩:=h
 cases r with
 | cons r1 rr =>
  cases rr with
  | cons r2 rr =>
   cases rr
   cases r2
   have e:=we X.K d
   obtain ⟨_,its,rv,ob,ho,hc,n,hdt⟩:=(show M9 X.prog X.w H s.heap p (.tup [.ty "tuple",.ty "list"]) from I.hok p _ hp)
   cases rv with
   | cons q1 rv =>
    cases rv with
    | cons q2 rv =>
     cases rv
     cases q1
     cases q2
     obtain ⟨oc,od,dt,sl⟩:=ob
     simp only at hc hdt
     subst hc hdt
     have fin:∀tk,EP X pins σ Q (.bool (jm d)) { s with toks:=tk }:=fun tk=>⟨.bl (jm d),H,I.tok tk,rfl,q⟩
     cases d with
     | none =>
      unfold Dt at hd
      subst hd
      cases r1
      exact eZ Fb I.kIn R6 ho e (fun z=>nomatch z) fin
     | int i =>
      unfold Dt at hd
      subst hd
      obtain ⟨t,rfl⟩:=r1
      exact eZ Hq I.kIn R6 ho e (fun z=>nomatch z) fin
     | tuple ds =>
      unfold Dt at hd
      obtain ⟨a,xs,e1,_,ha,_⟩:=hd
      subst e1
      cases r1
      obtain ⟨_,_,_,o,h1,h2,_⟩:=(show M9 X.prog X.w H s.heap a (.tup xs) from I.hok a _ ha)
      exact eZ BO I.kIn ⟨o,h1,h2⟩ ho e (fun z=>nomatch z) fin
     | _=>cases (show false=true from ok)
end
end L2
namespace G
open PySem PySem.Spec PyProof.Rows L2 Mt Md
section
variable {P:j7}{w:u9}{K:m6}{mg:Str->Option b9}{base:Heap}{f:Addr}{fd:C5}{ec:Nat->Addr}{Bs:Addr}
noncomputable def mi:Sp:=fun vs H Q _=>∃(l:Addr) (x:Int) (b:Bool),vs=[.ref l,.int 6]/\H l=some (.lst [.int x,.bl b])/\mU x b/\∀(v:V) (H':Hp) (d:A7),aH l b H H'->Dt l H' d v->Q8 0 6 d=false->Q v H'
noncomputable abbrev pU:Stmt:=gI 55
theorem AA:D8 ["_law_state_here","_law_most"] ["_law_state_here","_law_most"] (w6 pU):=⟨rfl,rfl,rfl,by decide +kernel,rfl,by decide +kernel,by decide +kernel⟩
theorem AI (F:cH K "_law_number" "_law_number" pU f fd) (c1:W5 P w K mg base 1 "_law_take" ["_law_state_here","_law_many"] bI):O5 P w K mg base dQ 2 f fd ["_law_state_here","_law_most"] mi:=by
 refine F.ok AA (fun vs H Q E h=>?_) (fun cdv A outer s H vs Q E hr h=>?_)
 ·obtain ⟨l,x,b,rfl,_⟩:=h
  rfl
 obtain ⟨l,x,b,rfl,hl,hst,q⟩:=h
 refine ⟨_,t6 (C6 (M7 W4 (S3 (b8 (B7 X8 (pv 1) i9) (mD 5 rfl (b8 (C7 (b8 i9 f6)) (b8 (S3 (b8 i9 f6)) (b8 (B7 kD i9 i9) (b8 (GH Cu (B7 kD i9 i9)) f6))))))) (B4 c1 hr rfl (b8 (pv 0) (b8 i9 f6))) (fun _ _=>rfl))),?_⟩
 have s0:aH l b H H:=aH.start hl hst
 refine ⟨_,rfl,_,_,rfl,rfl,(by show 1<=i0;decide),fun pt hpt=>?_⟩
 have s2:aH l b H (n8 H pt (.tup [.int 1])):=s0.new hpt
 have hpt2:n8 H pt (.tup [.int 1]) pt=some (.tup [.int 1]):=f9
 have npt:pt≠l:=(s0.ne hpt).symm
 try dsimp only
 generalize n8 H pt (.tup [.int 1])=H2 at s2 hpt2
 refine ⟨(by show 1<=i0;decide),fun pw hpw=>?_⟩
 have g3:i8 H2 (n8 H2 pw (.lst [.int 1])):=i8.new hpw
 have hpw3:n8 H2 pw (.lst [.int 1]) pw=some (.lst [.int 1]):=f9
 have npw:pw≠l:=(s2.ne hpw).symm
 have s3:=s2.same g3
 try dsimp only
 generalize n8 H2 pw (.lst [.int 1])=H3 at s3 g3 hpw3
 refine ⟨_,_,rfl,rfl,⟨by decide,by decide,by decide⟩,_,_,rfl,rfl,⟨by decide,by decide,by decide⟩,_,rfl,(by show 10<=i0;decide),fun po hpo=>?_⟩
 obtain ⟨X,hX⟩:∃X:List V,X=.int (6+1)::([.int (-1),.bl true,.bl false,.non,.str "1"]++[.ref pt,.ref pw,.int (10 ^ 29),.int (-(10 ^ 29))]):=⟨_,rfl⟩
 have s4:aH l b H (n8 H3 po (.lst X)):=s3.new hpo
 have g4:i8 H3 (n8 H3 po (.lst X)):=i8.new hpo
 have hpo4:n8 H3 po (.lst X) po=some (.lst X):=f9
 have npo:po≠l:=(s3.ne hpo).symm
 show JJ bI _ _ (n8 H3 po (.lst (.int (6+1)::([.int (-1),.bl true,.bl false,.non,.str "1"]++[.ref pt,.ref pw,.int (10 ^ 29),.int (-(10 ^ 29))])))) _
 rw[<- hX]
 generalize n8 H3 po (.lst X)=H4 at s4 g4 hpo4
 obtain ⟨_,x4,hx4,ok4⟩:=id s4
 refine ⟨_,rfl,l,10,x4,b,rfl,hx4,ok4,by decide,by decide,fun y x5 hy ok5=>?_⟩
 have s5:=s4.go ok5
 have k5:Kp l H4 (n8 H4 l (.lst [.int x5,.bl b])):=Kp.at
 try dsimp only
 generalize n8 H4 l (.lst [.int x5,.bl b])=H5 at s5 k5
 have f1:=k5 _ _ npt ((g3.trans g4) _ _ hpt2)
 have f2:=k5 _ _ npw (g4 _ _ hpw3)
 obtain ⟨v,d,hv,dt,hw⟩:∃v d,X[y]?=some v/\Dt l H5 d v/\Q8 0 6 d=false:=by
  rw[hX]
  have hy':y<10:=by lia
  match y,hy' with
  | 0,_=>exact ⟨_,_,rfl,Dt.int _ _ _,by decide⟩
  | 1,_=>exact ⟨_,_,rfl,Dt.int _ _ _,by decide⟩
  | 2,_=>exact ⟨_,_,rfl,Dt.bl _ _ _,rfl⟩
  | 3,_=>exact ⟨_,_,rfl,Dt.bl _ _ _,rfl⟩
  | 4,_=>exact ⟨_,_,rfl,Dt.non _ _,rfl⟩
  | 5,_=>exact ⟨_,_,rfl,Dt.str _ _ _,rfl⟩
  | 6,_=>exact ⟨_,_,rfl,Dt.mkI (ns:=[1]) npt f1,rfl⟩
  | 7,_=>exact ⟨_,_,rfl,Dt.lst npw f2 (U3.cons (Dt.int _ _ _) (U3.nil _ _)),rfl⟩
  | 8,_=>exact ⟨_,_,rfl,Dt.int _ _ _,by decide⟩
  | 9,_=>exact ⟨_,_,rfl,Dt.int _ _ _,by decide⟩
 exact ⟨po,_,_,_,rfl,rfl,.of (k5 _ _ npo hpo4),D7 hv,q v H5 d s5 dt hw⟩
noncomputable abbrev gX:Stmt:=gI 56
theorem oC:D8 ["_law_found","_law_due_here"] ["_law_found","_law_due_here"] (w6 gX):=⟨rfl,rfl,rfl,by decide +kernel,rfl,by decide +kernel,by decide +kernel⟩
noncomputable def pH:Sp:=fun vs H Q _=>∃v,vs=[v,v]/\(v=.non ∨ ∃i,v=.int i)/\∀H',i8 H H'->Q (.bl true) H'
theorem Dz (F:cH K "_law_same" "_law_same" gX f fd) (B:Bt mg):O5 P w K mg base dQ 1 f fd ["_law_found","_law_due_here"] pH:=by
 refine F.ok oC (fun vs H Q E h=>?_) (fun cdv A outer s H vs Q E hr h=>?_)
 ·obtain ⟨v,rfl,_⟩:=h
  rfl
 obtain ⟨v,rfl,hv,q⟩:=h
 refine ⟨_,m7 (T9 (Z0 (n9 mR rfl B.isinstance r0 (b8 (pv 1) (b8 (C7 (b8 (O8 rfl B.tuple E7) (b8 (O8 rfl B.list Z3) f6))) f6)))) jy J7)
  (t6 (C6 (cS (eF (IH hr.units) (pv 0) (pv 1) (N6 _)) (cR (eF iz (n9 (M8 lB) rfl B.isinstance r0 (b8 (pv 0) (b8 (O8 rfl B.bool ED) f6))) (n9 (M8 lB) rfl B.isinstance r0 (b8 (pv 1) (b8 (O8 rfl B.bool ED) f6))) (N6 _)))))),?_⟩
 obtain ⟨d,hd,h1,h2,h3,h4,h5⟩:∃d:A7,(∀(st:Addr) (H':Hp),Dt st H' d v)/\GJ d=true/\jm d=false/\Y3 d=true/\aj d d=true/\zD d=false:=by
  rcases hv with rfl|⟨i,rfl⟩
  ·exact ⟨.none,fun st H'=>Dt.non _ _,rfl,rfl,by decide,by decide,rfl⟩
  ·exact ⟨.int i,fun st H'=>Dt.int _ _ _,rfl,rfl,by unfold Y3;simp[N3,V9],by unfold aj;simp,rfl⟩
 refine ⟨_,rfl,(by show 2<=i0;decide),fun p hp=>⟨v,0,d,p,rfl,hd 0 _,h1,f9,_,rfl,?_⟩⟩
 rw[h2]
 refine W0 ⟨_,rfl,_,rfl,0,d,d,hd 0 _,hd 0 _,h3,h3,_,rfl,?_⟩
 rw[h4]
 refine V4 ⟨_,rfl,v,0,d,rfl,hd 0 _,_,rfl,v,0,d,rfl,hd 0 _,rfl,?_⟩
 rw[decide_eq_true rfl]
 exact q _ (i8.new hp)
end
noncomputable def dS (i:Nat) (cs:List Int) (rs:List (List Int)):List Int:=yR (fun c r=>c*r.getD i 0) cs rs
theorem qM (rs:List (List Int)) (i:Nat):∀(cs:List Int) (j:Nat),cs.length+j<=rs.length->mO rs i cs j=(dS i cs (rs.drop j)).sum
 | [],_,_=>by unfold mO dS;simp
 | c::cs,j,h=>by
  rw[m9] at h
  have hj:j<rs.length:=by lia
  unfold mO
  rw[qM rs i cs (j+1) (by lia),vk hj]
  unfold dS
  rw[List.zipWith_cons_cons,W6,A2 (l:=rs),f7 hj];rfl
section
variable {P:j7}{w:u9}{K:m6}{mg:Str->Option b9}{base:Heap}{f:Addr}{fd:C5}
noncomputable def tM:Sp:=fun vs H Q _=>∃(a c st:Addr) (v:V) (n:Nat) (ns cs:List Int) (rs:List (List Int)),vs=[.ref a,v,.ref c]/\H a=some (.tup (ns.map V.int))/\ns.length=n/\Dt st H (DR rs) v/\Mt.kF n 5 rs/\n<=4/\cs.length=n/\(H c=some (.tup (cs.map V.int)) ∨ H c=some (.lst (cs.map V.int)))/\(∀x∈cs,0<=x/\x<=100) /\
 ∀p H',i8 H H'->H' p=some (.tup ((aL ns rs cs).map V.int))->Q (.ref p) H'
noncomputable abbrev CQ:Stmt:=gI 47
theorem Ih:D8 ["_law_urn","_law_rule_here","_law_counts"] ["_law_urn","_law_rule_here","_law_counts"] (w6 CQ):=⟨rfl,rfl,rfl,by decide +kernel,rfl,by decide +kernel,by decide +kernel⟩
theorem IR (F:cH K "_law_behind" "_law_behind" CQ f fd) (B:Bt mg):O5 P w K mg base dQ 1 f fd ["_law_urn","_law_rule_here","_law_counts"] tM:=by
 refine F.ok Ih (fun vs H Q E h=>?_) (fun cdv A outer s H vs Q E hr h=>?_)
 ·obtain ⟨a,c,st,v,n,ns,cs,rs,rfl,_⟩:=h
  rfl
 obtain ⟨a,c,st,v,n,ns,cs,rs,rfl,ha,hn,hv,hR,n4,hcl,hc,hcb,q⟩:=h
 refine ⟨_,t6 (C6 (N5 Q6 rfl B.tuple E7 (b8
  (O7 (N:=["_law_kind","_law_urn","_law_counts","_law_rule_here"]) (ix:=[none,some 0,some 2,some 1]) (ifs:=[]) (tc:=X4) rfl
   (S2 rfl B.range (b8 (n9 D6 rfl B.len C4 (b8 (pv 0) f6)) f6))
   (fun s H ex=>cx (i:=0) (by decide +kernel) rfl (gD rfl) (.inl rfl)) (fun s H ex=>O1)
   (fun s H ex=>B7 X8 (M7 (ixK (K:=K) rfl) (pv 1) (pv 0) (fun _ _=>rfl))
    (n9 (sumK (K:=K) rfl rfl) rfl B.sum Ah (b8
     (O7 (N:=["_law_often","_law_row","_law_kind"]) (ix:=[none,none,some 0]) (ifs:=[]) (tc:=X4) rfl
      (De (K:=K) rfl rfl B.zip (b8 (pv 2) (b8 (pv 3) f6)))
      (fun s H ex=>AE (K:=K) (n:=2) rfl rfl (M6 (cx (i:=0) (by decide +kernel) rfl (A5 rfl) (.inr rfl)) (M6 (cx (i:=1) (by decide +kernel) rfl (A5 rfl) (.inr rfl)) cw)))
      (fun s H ex=>O1)
      (fun s H ex=>B7 jh (pv 0) (M7 (ixK (K:=K) rfl) (pv 1) (pv 2) (fun _ _=>rfl)))
      rfl (by decide +kernel) (by rfl) (by rfl) (fun _=>rfl)) f6)))
   rfl (by decide +kernel) (by rfl) (by rfl) (fun _=>rfl)) f6))),?_⟩
 obtain ⟨r,xs,er,_,hr2,hds⟩:=hv.untup
 subst er
 have hxl:=hds.len
 rw[d8,hR.len] at hxl
 refine ⟨_,rfl,a,_,rfl,.inr (.of ha),_,rfl,by rw[d8];lia,by rw[d8];lia,?_⟩
 have en:(((ns.map V.int).length:Nat):Int).toNat=n:=by rw[d8];lia
 rw[en]
 have bl:(aL ns rs cs).length=n:=by unfold aL;simp[hn]
 refine ao (lo:=0) (n:=n) (sz (by lia)) (fun i ys H2=>i8 H H2/\i<=n/\ys=((aL ns rs cs).take i).map V.int) ⟨i8.refl H,v8 _,rfl⟩ (fun i ys H2 h=>?_) rfl (fun i ys H2 hi h=>?_) (fun ys H2 h=>?_)
 ·obtain ⟨_,hi,rfl⟩:=h
  rw[d8,v7,bl];lia
 ·obtain ⟨g2,hin,rfl⟩:=h
  have e0:(0:Int)+(i:Int)=(i:Int):=by lia
  rw[e0]
  have hnsi:(ns.map V.int)[i]?=some (.int (ns.getD i 0)):=by
   rw[w5,f7 (by lia:i<ns.length),A2,f7 (by lia:i<ns.length)];rfl
  refine ⟨_,rfl,_,rfl,a,_,_,_,rfl,rfl,.of (g2 _ _ ha),D7 hnsi,_,rfl,_,rfl,c,r,cs.map V.int,xs,rfl,.of (g2 _ _ hr2),?_⟩
  have hpl:(dS i cs rs).length=n:=by unfold dS;rw[fG,hcl,hR.len];lia
  have turn:∀(j:Nat) (zs:List V) (H3:Hp) (x y:V) (p:Addr),(cs.map V.int)[j]?=some x->xs[j]?=some y->H3 p=none->(i8 H H3/\j<=n/\zs=((dS i cs rs).take j).map V.int) ->
    ∀(σ0:L2.St),σ0=[none,none,some (.int (i:Int))]->gQ (rI Gm fun i j=>.int (i*j)) (U2 0) (gQ (Iw K) (U2 1) (U2 2)) ((σ0.set 0 (some x)).set 1 (some y)) (n8 H3 p (.tup [x,y])) fun z H'=>i8 H H'/\j+1<=n/\zs++[z]=((dS i cs rs).take (j+1)).map V.int:=by
   intro j zs H3 x y p hx hy hp h σ0 hσ
   subst hσ
   obtain ⟨g3,hjn,rfl⟩:=h
   rw[w5] at hx
   obtain ⟨cj,hcj,ex⟩:=Option.map_eq_some_iff.mp hx
   subst ex
   obtain ⟨d,hd,dt⟩:=hds.get hy
   rw[w5] at hd
   obtain ⟨row,hrow,ed⟩:=Option.map_eq_some_iff.mp hd
   subst ed
   obtain ⟨rb,eb,_,hb⟩:=dt.di
   subst eb
   have hjl:=(List.getElem?_eq_some_iff.mp hcj).1
   have hrl:row.length=n:=(hR.row row (m8 hrow)).len
   have g4:=g3.trans (i8.new hp (o:=.tup [.int cj,.ref rb]))
   have hri:(row.map V.int)[i]?=some (.int (row.getD i 0)):=by
    rw[w5,f7 (by lia:i<row.length),A2,f7 (by lia:i<row.length)];rfl
   have hcb':=hcb cj (m8 hcj)
   refine ⟨_,rfl,_,rfl,_,rfl,rb,_,_,_,rfl,rfl,.of (g4 _ _ hb),D7 hri,_,_,rfl,rfl,.inl ⟨by lia,by lia⟩,g4,by lia,?_⟩
   have e2:(dS i cs rs)[j]?=some (cj*row.getD i 0):=by unfold dS;rw[jS,hcj,hrow]
   rw[E3,e2,B0];rfl
  have fin:∀(zs:List V) (H3:Hp),(i8 H H3/\n<=n/\zs=((dS i cs rs).take n).map V.int)->∀p,H3 p=none ->
    ∃(p':Addr) (ms:List Int),([.ref p]:List V)=[.ref p']/\(dP K (n8 H3 p (.lst zs)) p' (ms.map V.int) ∨ dI K (n8 H3 p (.lst zs)) p' (ms.map V.int))/\∃i_1 j,(V.int (ns.getD i 0))=.int i_1/\V.int ms.sum=.int j/\(i8 H (n8 H3 p (.lst zs))/\i+1<=n/\((aL ns rs cs).take i).map V.int++[V.int (i_1+j)]=((aL ns rs cs).take (i+1)).map V.int):=by
   intro zs H3 h p hp
   obtain ⟨g3,_,rfl⟩:=h
   rw[show (dS i cs rs).take n=dS i cs rs from G6 (by lia)]
   refine ⟨p,dS i cs rs,rfl,.inl (.of f9),_,_,rfl,rfl,g3.trans (i8.new hp),hi,?_⟩
   have e3:(aL ns rs cs)[i]?=some (ns.getD i 0+(dS i cs rs).sum):=by
    unfold aL
    rw[w5,lR (by lia),ar,qM rs i cs 0 (by rw[hcl,hR.len];lia),P2]
   rw[E3,e3,B0];rfl
  have lx:(cs.map V.int).length=n:=by rw[d8];exact hcl
  rcases hc with hc|hc
  ·refine .inl ⟨.of (g2 _ _ hc),?_⟩
   refine oO (K:=K) (a:=c) (b:=r) (xs:=cs.map V.int) (ys:=xs) (sz (by lia)) (by lia) (fun j zs H3=>i8 H H3/\j<=n/\zs=((dS i cs rs).take j).map V.int) ⟨g2,v8 _,rfl⟩ (fun j zs H3 h=>?_) (fun j zs H3 _ h=>⟨.of (h.1 _ _ hc),.of (h.1 _ _ hr2)⟩) ⟨rfl,rfl⟩ (fun j zs H3 x y p hx hy hp h=>turn j zs H3 x y p hx hy hp h _ rfl) (fun zs H3 h=>?_)
   ·obtain ⟨_,hj,rfl⟩:=h
    rw[d8,v7,hpl];lia
   ·rw[lx] at h
    exact fun p hp=>fin zs H3 h p hp
  ·refine .inr ⟨.of (g2 _ _ hc),?_⟩
   refine Ep (K:=K) (a:=c) (b:=r) (xs:=cs.map V.int) (ys:=xs) (sz (by lia)) (by lia) (fun j zs H3=>i8 H H3/\j<=n/\zs=((dS i cs rs).take j).map V.int) ⟨g2,v8 _,rfl⟩ (fun j zs H3 h=>?_) (fun j zs H3 _ h=>⟨.of (h.1 _ _ hc),.of (h.1 _ _ hr2)⟩) ⟨rfl,rfl⟩ (fun j zs H3 x y p hx hy hp h=>turn j zs H3 x y p hx hy hp h _ rfl) (fun zs H3 h=>?_)
   ·obtain ⟨_,hj,rfl⟩:=h
    rw[d8,v7,hpl];lia
   ·rw[lx] at h
    exact fun p hp=>fin zs H3 h p hp
 ·obtain ⟨g2,_,rfl⟩:=h
  intro p hp
  refine ⟨p,_,rfl,.inl ⟨.of f9,fun l hl=>?_⟩⟩
  refine q l _ ((g2.trans (i8.new hp)).trans (i8.new hl)) ?_
  rw[f9,<- bl,E2]
end
end G
namespace Mq
open PySem PySem.Spec L2 Mt Md
theorem jl (φ:List Int->Rat):∀A B:F0,aG (A++B) φ=aG A φ+aG B φ
 | [],B=>by show aG B φ=0+_;grind
 | p::A,B=>by
  show aG (p::(A++B)) φ=_
  rw[S5,S5,jl φ A B];grind
theorem fx.pos {n m:Nat}{T:F0} (h:fx n m T):∀p∈T,(∀b∈p.1,0<=b)/\0<p.1.sum:=fun p hp=>⟨fun b hb=>((h p hp).nn b hb).1,(h p hp).pos⟩
noncomputable def dd {α:Type} [DecidableEq α]:List α->List α
 | []=>[]
 | a::l=>if a∈dd l then dd l else a::dd l
theorem DM {α:Type} [DecidableEq α] {x:α}:∀{l:List α},x∈l->x∈dd l
 | a::l,h=>by
  unfold dd
  rcases List.mem_cons.mp h with e|e
  ·subst e
   split
   ·assumption
   ·exact i4
  ·have:=DM e
   split
   ·exact this
   ·exact i3 _ this
theorem yE {α:Type} [DecidableEq α] {x:α}:∀{l:List α},x∈dd l->x∈l
 | [],h=>h
 | a::l,h=>by
  unfold dd at h
  split at h
  ·exact i3 _ (yE h)
  ·rcases List.mem_cons.mp h with e|e
   ·subst e;exact i4
   ·exact i3 _ (yE e)
theorem DJ {α:Type} [DecidableEq α]:∀{l m:List α},l.Nodup->(∀a∈l,a∈m)->l.length<=m.length
 | [],m,_,_=>v8 _
 | a::l,m,hn,h=>by
  rw[P7] at hn
  have ha:=h a i4
  have ih:=DJ (l:=l) (m:=m.erase a) hn.2 fun b hb=>by
   have:b≠a:=fun e=>hn.1 (e ▸ hb)
   exact (List.mem_erase_of_ne this).mpr (h b (i3 _ hb))
  have:=List.length_erase_of_mem ha
  have hp:0<m.length:=List.length_pos_of_mem ha
  rw[m9];lia
noncomputable def Bi (n:Nat):Nat->List (List Int)
 | 0=>[u5 n 0]
 | k+1=>dd ((Bi n k).flatMap fun c=>(J9 n).map fun i=>inc c i)
theorem wH {n:Nat}:∀{k:Nat}{c:List Int},c∈Bi n k->c.length=n
 | 0,c,h=>by rw[List.mem_singleton.mp h];simp
 | k+1,c,h=>by
  obtain ⟨c0,h0,h1⟩:=List.mem_flatMap.mp (yE (show c∈dd _ from h))
  obtain ⟨i,_,e⟩:=List.mem_map.mp h1
  rw[<- e];unfold inc;rw[aI];exact wH h0
theorem pZ {x:Rat}{s:Int}:∀{bs:List (Int × List Int)}{D:F0}{p:List Int × Rat},p∈P4 x s bs D->(∃b∈bs,p.1=b.2) ∨ ∃q∈D,q.1=p.1
 | [],D,p,h=>.inr ⟨p,h,rfl⟩
 | b::bs,D,p,h=>by
  unfold P4 at h
  rcases pZ h with ⟨c,hc,e⟩|⟨q,hq,e⟩
  ·exact .inl ⟨c,i3 _ hc,e⟩
  ·rcases eU hq with e2|⟨r,hr,e2⟩
   ·exact .inl ⟨b,i4,by rw[<- e,e2]⟩
   ·exact .inr ⟨r,hr,by rw[e2,e]⟩
theorem nE {rs:List (List Int)}:∀{T D:F0}{p:List Int × Rat},p∈R4 rs T D->(∃q∈T,∃b∈pj rs q.1,p.1=b.2) ∨ ∃q∈D,q.1=p.1
 | [],D,p,h=>.inr ⟨p,h,rfl⟩
 | t::T,D,p,h=>by
  unfold R4 at h
  rcases nE h with ⟨q,hq,b,hb,e⟩|⟨q,hq,e⟩
  ·exact .inl ⟨q,i3 _ hq,b,hb,e⟩
  ·rcases pZ hq with ⟨b,hb,e2⟩|⟨r,hr,e2⟩
   ·exact .inl ⟨t,i4,b,hb,by rw[<- e,e2]⟩
   ·exact .inr ⟨r,hr,by rw[e2,e]⟩
theorem zU {n:Nat}{rs:List (List Int)}{u:List Int} (hR:kF n 5 rs) (hu:u.length=n):∀{k:Nat}{p:List Int × Rat},p∈nQ rs k [(u,1)]->∃c∈Bi n k,p.1=aL u rs c
 | 0,p,h=>by
  rw[List.mem_singleton.mp h]
  exact ⟨_,List.mem_singleton.mpr rfl,(qO u rs n).symm⟩
 | k+1,p,h=>by
  rcases nE (show p∈R4 rs (nQ rs k [(u,1)]) [] from h) with ⟨q,hq,b,hb,e⟩|⟨q,hq,_⟩
  ·obtain ⟨c,hc,e2⟩:=zU hR hu hq
   obtain ⟨j,h1,_,h3⟩:=ly hb
   rw[K5] at h3
   have hj:j<n:=by
    rw[e2] at h1
    unfold aL at h1
    rw[d8,Fg,hu] at h1
    exact h1
   refine ⟨inc c j,DM (List.mem_flatMap.mpr ⟨c,hc,List.mem_map.mpr ⟨j,List.mem_range.mpr hj,rfl⟩⟩),?_⟩
   rw[uL hu (wH hc) hR hj,e,h3,e2]
  ·simp at hq
theorem qB {φ ψ:List Int->Rat}:∀{T:F0},(∀p∈T,φ p.1=ψ p.1)->aG T φ=aG T ψ
 | [],_=>rfl
 | p::T,h=>by rw[S5,S5,h p i4,qB fun q hq=>h q (i3 _ hq)]
theorem zq {φ:List Int->Rat} (hφ:∀u,0<=φ u):∀{T:F0},(∀p∈T,0<=p.2)->0<=aG T φ
 | [],_=>by show (0:Rat)<=0;grind
 | p::T,h=>by
  have h1:=kS (h p i4) (hφ p.1)
  have h2:=zq hφ (T:=T) fun q hq=>h q (i3 _ hq)
  rw[S5];grind
theorem Jj {n k:Nat} (h1:1<=n) (h4:n<=4) (hk:k<=6):(Bi n k).length<128:=by
 have key:∀n∈[1,2,3,4],∀k∈[0,1,2,3,4,5,6],(Bi n k).length<128:=by decide +kernel
 refine key n ?_ k ?_
 ·have:n=1 ∨ n=2 ∨ n=3 ∨ n=4:=by lia
  simp;lia
 ·simp;lia
theorem eW {n k:Nat}{rs:List (List Int)}{u:List Int} (hR:kF n 5 rs) (n1:1<=n) (n4:n<=4) (hu:jP n 20 u) (hk:k<=6):(nQ rs k [(u,1)]).length<128:=by
 have h2:=(nP hR n4 hu k hk).2.1
 unfold fN at h2
 have:=DJ (m:=(Bi n k).map (aL u rs)) h2 fun a ha=>by
  obtain ⟨p,hp,e⟩:=List.mem_map.mp ha
  obtain ⟨c,hc,e2⟩:=zU hR hu.len hp
  exact List.mem_map.mpr ⟨c,hc,by rw[<- e,e2]⟩
 rw[d8,d8] at this
 have:=Jj n1 n4 hk
 lia
noncomputable def Eu (T:F0):Prop:=(T.map (·.1)).Pairwise (fun a b=>HT.U7 b a=false)
theorem kC:∀{T U:F0},Eu T->Eu U->fN T->T.Perm U->T=U
 | [],U,_,_,_,h=>by rw[h.nil_eq]
 | p::T,[],_,_,_,h=>by have:=h.length_eq;simp at this
 | p::T,q::U,hT,hU,hn,h=>by
  have hT':=List.pairwise_cons.mp (show (p.1::T.map (·.1)).Pairwise _ from hT)
  have hU':=List.pairwise_cons.mp (show (q.1::U.map (·.1)).Pairwise _ from hU)
  have hn':p.1 ∉ T.map (·.1)/\fN T:=by unfold fN at hn ⊢;rw[A9,P7] at hn;exact hn
  have e:p=q:=by
   have hp:p∈q::U:=h.mem_iff.mp i4
   have hq:q∈p::T:=h.mem_iff.mpr i4
   rcases List.mem_cons.mp hp with z|z
   ·exact z
   ·rcases List.mem_cons.mp hq with y|y
    ·exact y.symm
    ·have a1:=hU'.1 p.1 (List.mem_map.mpr ⟨p,z,rfl⟩)
     have a2:=hT'.1 q.1 (List.mem_map.mpr ⟨q,y,rfl⟩)
     have:=ur a1 a2
     exact absurd (List.mem_map.mpr ⟨q,y,this.symm⟩) hn'.1
  subst e
  rw[kC hT'.2 hU'.2 hn'.2 h.cons_inv]
theorem oG:∀{T:F0}{p:List Int × Rat},fN T->(p∈T ↔ p.1∈T.map (·.1)/\fh T p.1=p.2)
 | [],p,_=>by simp
 | q::T,p,h=>by
  have h1:q.1 ∉ T.map (·.1)/\fN T:=by unfold fN at h ⊢;rw[A9,P7] at h;exact h
  rw[A0,A9,A0]
  show _ ↔ _/\(if q.1=p.1 then q.2 else fh T p.1)=p.2
  by_cases e:q.1=p.1
  ·rw[if_pos e]
   constructor
   ·rintro (z|z)
    ·subst z;exact ⟨.inl rfl,rfl⟩
    ·exact absurd (List.mem_map.mpr ⟨p,z,e.symm⟩) h1.1
   ·rintro ⟨_,z⟩
    exact .inl (Prod.ext e.symm z.symm)
  ·rw[if_neg e]
   constructor
   ·rintro (z|z)
    ·exact absurd (by rw[z]) e
    ·have:=(oG h1.2).mp z
     exact ⟨.inr this.1,this.2⟩
   ·rintro ⟨z|z,y⟩
    ·exact absurd z.symm e
    ·exact .inr ((oG h1.2).mpr ⟨z,y⟩)
theorem yk:∀{T:F0},fN T->T.Nodup
 | [],_=>uU
 | q::T,h=>by
  have h1:q.1 ∉ T.map (·.1)/\fN T:=by unfold fN at h ⊢;rw[A9,P7] at h;exact h
  exact List.nodup_cons.mpr ⟨fun z=>h1.1 (List.mem_map.mpr ⟨q,z,rfl⟩),yk h1.2⟩
theorem qt {α:Type} [DecidableEq α]:∀{l m:List α},l.Nodup->m.Nodup->(∀x,x∈l ↔ x∈m)->l.Perm m
 | [],m,_,_,h=>by
  cases m with
  | nil=>exact bZ _
  | cons a m=>exact absurd ((h a).mpr i4) (by simp)
 | a::l,m,hl,hm,h=>by
  have ha:a∈m:=(h a).mp i4
  have hl':=List.nodup_cons.mp hl
  have ih:=qt (l:=l) (m:=m.erase a) hl'.2 (hm.erase a) fun x=>by
   rw[List.Nodup.mem_erase_iff hm]
   constructor
   ·intro hx
    exact ⟨fun z=>hl'.1 (by rw[<- z];exact hx),(h x).mp (i3 _ hx)⟩
   ·rintro ⟨h1,h2⟩
    rcases List.mem_cons.mp ((h x).mpr h2) with z|z
    ·exact absurd z h1
    ·exact z
  exact (ih.cons a).trans (List.perm_cons_erase ha).symm
theorem vT {T U:F0} (hT:fN T) (hU:fN U) (hk:∀k,k∈T.map (·.1) ↔ k∈U.map (·.1)) (hv:∀k,fh T k=fh U k):T.Perm U :=
 qt (yk hT) (yk hU) fun p=>by rw[oG hT,oG hU,hk,hv]
end Mq
namespace G
open PySem PySem.Spec PyProof.Rows L2 Mt Md Mq
section
variable {P:j7}{w:u9}{K:m6}{mg:Str->Option b9}{base:Heap}{f:Addr}{fd:C5}{ec:Nat->Addr}{Bs:Addr}
noncomputable def pK:Sp:=fun vs H Q _=>∃t b:Int,vs=[.int t,.int b]/\0<=t/\0<b/\b.natAbs.log2<9000/\∀p H',i8 H H'->H' p=some (.tup ((fr (cut t b)).map V.int))->Q (.ref p) H'
noncomputable abbrev CP:Stmt:=gI 44
theorem xQ:D8 ["_law_top","_law_bottom","_law_one","_law_other"] ["_law_top","_law_bottom"] (w6 CP):=⟨rfl,rfl,rfl,by decide +kernel,rfl,by decide +kernel,by decide +kernel⟩
theorem IQ (F:cH K "_law_fraction" "_law_fraction" CP f fd) (B:Bt mg):O5 P w K mg base dQ 1 f fd ["_law_top","_law_bottom"] pK:=by
 refine F.ok xQ (fun vs H Q E h=>?_) (fun cdv A outer s H vs Q E hr h=>?_)
 ·obtain ⟨x,y,rfl,_⟩:=h
  rfl
 obtain ⟨t,b,rfl,ht,hb,hlog,q⟩:=h
 refine ⟨_,m7 (qe (i:=2) (j:=3) rfl xQ.nd rfl rfl (by decide) rfl rfl (b8 (pv 1) (b8 (n9 wL rfl B.abs boot_abs (b8 (pv 0) f6)) f6)) rfl)
  (m7 (vO K3 (P0 zi (pv 3) i9 (N6 _)) (t6 (qe (i:=2) (j:=3) rfl xQ.nd rfl rfl (by decide) rfl rfl (b8 (pv 3) (b8 (B7 ic (pv 2) (pv 3)) f6)) rfl)))
  (t6 (C6 (C7 (b8 (B7 lj (pv 0) (pv 2)) (b8 (B7 lj (pv 1) (pv 2)) f6)))))),?_⟩
 have g:=zH (t:=t) hb hlog
 refine ⟨_,rfl,_,rfl,t,rfl,_,_,rfl,?_⟩
 rw[if_neg (show ¬ t<0 by lia)]
 refine ⟨fun m σ H2=>H2=H/\∃x' y':Int,0<=x'/\0<=y'/\σ=[some (.int t),some (.int b),some (.int x'),some (.int y')]/\m=y'.toNat/\U8 x' y'=U8 t b,⟨_,rfl,b,t,by lia,ht,rfl,rfl,Int.gcd_comm b t⟩,?_⟩
 rintro m σ H2 ⟨rfl,x',y',h1,h2,rfl,rfl,e⟩
 refine ⟨_,rfl,_,_,rfl,rfl,_,rfl,?_⟩
 by_cases hz:0<y'
 ·rw[decide_eq_true hz]
  refine V4 ⟨fun σ' H'=>H'=H2/\∃a c:Int,0<=a/\0<=c/\σ'=[some (.int t),some (.int b),some (.int a),some (.int c)]/\c.toNat<y'.toNat/\U8 a c=U8 t b,?_,?_⟩
  ·rintro σ' H' ⟨rfl,a,c,ha,hc,rfl,hlt,e2⟩
   exact ⟨_,hlt,rfl,a,c,ha,hc,rfl,rfl,e2⟩
  ·have hm:=cF x' (show y'≠0 by lia)
   have hm2:=aF x' hz
   refine ⟨_,rfl,_,rfl,_,rfl,_,_,rfl,rfl,hz,_,_,rfl,?_⟩
   exact ⟨rfl,y',x' % y',h2,hm,rfl,by lia,by rw[wk h1 hz];exact e⟩
 ·rw[decide_eq_false hz]
  have hy:y'=0:=by lia
  subst hy
  have e2:x'=((U8 t b:Nat):Int):=by rw[<- e,Fj];lia
  subst e2
  refine W0 ⟨_,rfl,_,rfl,_,_,rfl,rfl,g,_,rfl,_,rfl,_,_,rfl,rfl,g,(by show 2<=i0;decide),fun p hp=>?_⟩
  refine q p _ (i8.new hp) ?_
  rw[f9,DZ hb];rfl
noncomputable abbrev Ik:Stmt:=gI 46
theorem KD:D8 ["_law_one","_law_other"] ["_law_one","_law_other"] (w6 Ik):=⟨rfl,rfl,rfl,by decide +kernel,rfl,by decide +kernel,by decide +kernel⟩
theorem Lf (F:cH K "_law_by" "_law_by" Ik f fd) (c1:W5 P w K mg base 1 "_law_fraction" ["_law_top","_law_bottom"] pK):O5 P w K mg base dQ 2 f fd ["_law_one","_law_other"] gh:=by
 refine F.ok KD (fun vs H Q E h=>?_) (fun cdv A outer s H vs Q E hr h=>?_)
 ·obtain ⟨p,q,x,y,n,m,rfl,_⟩:=h
  rfl
 obtain ⟨p,q,x,y,n,m,rfl,hp,hq,x0,y0,bx,by',hnm,k⟩:=h
 refine ⟨_,t6 (C6 (B4 c1 hr rfl (b8 (B7 dj (M7 R5 (pv 0) i9 (fun _ _=>rfl)) (M7 R5 (pv 1) i9 (fun _ _=>rfl))) (b8 (B7 dj (M7 R5 (pv 0) i9 (fun _ _=>rfl)) (M7 R5 (pv 1) i9 (fun _ _=>rfl))) f6)))),?_⟩
 have hp':H p=some (.tup [.int x.num,.int x.den]):=hp
 have hq':H q=some (.tup [.int y.num,.int y.den]):=hq
 have b1:A6 x.num<=2 ^ 20:=Y7 bx.num (by lia)
 have b2:A6 y.num<=2 ^ 20:=Y7 by'.num (by lia)
 have b3:A6 (x.den:Int)<=2 ^ 20:=Y7 (by rw[Q4];exact bx.den) (by lia)
 have b4:A6 (y.den:Int)<=2 ^ 20:=Y7 (by rw[Q4];exact by'.den) (by lia)
 refine ⟨_,rfl,p,_,_,_,rfl,rfl,.of hp',D7 (j:=0) rfl,_,rfl,q,_,_,_,rfl,rfl,.of hq',D7 (j:=0) rfl,_,_,rfl,rfl,⟨b1,b2⟩,
  _,rfl,p,_,_,_,rfl,rfl,.of hp',D7 (j:=1) rfl,_,rfl,q,_,_,_,rfl,rfl,.of hq',D7 (j:=1) rfl,_,_,rfl,rfl,⟨b3,b4⟩,_,_,rfl,?_,?_,?_,?_⟩
 ·exact dw x0 y0
 ·have h1:=x.den_nz;have h2:=y.den_nz
  have:=iw (U0 h1) (U0 h2)
  rw[<- cE];lia
 ·rw[fb (by have h1:=x.den_nz;have h2:=y.den_nz;rw[ag];exact cD (by lia) (by lia)),ag]
  refine B8 (E4 bx.den by'.den) ?_
  rw[<- Q7]
  exact Y8 (by decide) (by lia)
 ·rw[zQ];exact k
noncomputable abbrev tX:Stmt:=gI 45
theorem CK:D8 ["_law_one","_law_other"] ["_law_one","_law_other"] (w6 tX):=⟨rfl,rfl,rfl,by decide +kernel,rfl,by decide +kernel,by decide +kernel⟩
theorem DD (F:cH K "_law_plus" "_law_plus" tX f fd) (c1:W5 P w K mg base 1 "_law_fraction" ["_law_top","_law_bottom"] pK):O5 P w K mg base dQ 2 f fd ["_law_one","_law_other"] gS:=by
 refine F.ok CK (fun vs H Q E h=>?_) (fun cdv A outer s H vs Q E hr h=>?_)
 ·obtain ⟨p,q,x,y,n,m,rfl,_⟩:=h
  rfl
 obtain ⟨p,q,x,y,n,m,rfl,hp,hq,x0,y0,bx,by',hnm,k⟩:=h
 refine ⟨_,t6 (C6 (B4 c1 hr rfl (b8 (B7 X8 (B7 dj (M7 R5 (pv 0) i9 (fun _ _=>rfl)) (M7 R5 (pv 1) i9 (fun _ _=>rfl))) (B7 dj (M7 R5 (pv 1) i9 (fun _ _=>rfl)) (M7 R5 (pv 0) i9 (fun _ _=>rfl)))) (b8 (B7 dj (M7 R5 (pv 0) i9 (fun _ _=>rfl)) (M7 R5 (pv 1) i9 (fun _ _=>rfl))) f6)))),?_⟩
 have hp':H p=some (.tup [.int x.num,.int x.den]):=hp
 have hq':H q=some (.tup [.int y.num,.int y.den]):=hq
 have b1:A6 x.num<=2 ^ 20:=Y7 bx.num (by lia)
 have b2:A6 y.num<=2 ^ 20:=Y7 by'.num (by lia)
 have b3:A6 (x.den:Int)<=2 ^ 20:=Y7 (by rw[Q4];exact bx.den) (by lia)
 have b4:A6 (y.den:Int)<=2 ^ 20:=Y7 (by rw[Q4];exact by'.den) (by lia)
 refine ⟨_,rfl,p,_,_,_,rfl,rfl,.of hp',D7 (j:=0) rfl,_,rfl,q,_,_,_,rfl,rfl,.of hq',D7 (j:=1) rfl,_,_,rfl,rfl,⟨b1,b4⟩,
  _,rfl,q,_,_,_,rfl,rfl,.of hq',D7 (j:=0) rfl,_,rfl,p,_,_,_,rfl,rfl,.of hp',D7 (j:=1) rfl,_,_,rfl,rfl,⟨b2,b3⟩,_,_,rfl,rfl,
  _,rfl,p,_,_,_,rfl,rfl,.of hp',D7 (j:=1) rfl,_,rfl,q,_,_,_,rfl,rfl,.of hq',D7 (j:=1) rfl,_,_,rfl,rfl,⟨b3,b4⟩,_,_,rfl,?_,?_,?_,?_⟩
 ·exact Kg (dw x0 (by lia)) (dw y0 (by lia))
 ·have h1:=x.den_nz;have h2:=y.den_nz
  have:=iw (U0 h1) (U0 h2)
  rw[<- cE];lia
 ·rw[fb (by have h1:=x.den_nz;have h2:=y.den_nz;rw[ag];exact cD (by lia) (by lia)),ag]
  refine B8 (E4 bx.den by'.den) ?_
  rw[<- Q7]
  exact Y8 (by decide) (by lia)
 ·rw[zS];exact k
end
end G
set_option maxHeartbeats 1000000
namespace Mq
open PySem PySem.Spec L2 Mt Md
noncomputable def uz (g c:List Int) (i:Nat):List Nat:=(J9 i).filter fun j=>decide (c.getD j 0<g.getD j 0)
noncomputable def rl (u:List Int) (rs:List (List Int)) (g c:List Int) (i:Nat):List (Int × List Int):=(uz g c i).map fun j=>((aL u rs c).getD j 0,inc c j)
noncomputable def S4 (u:List Int) (rs:List (List Int)) (g:List Int):F0->F0->F0
 | [],D=>D
 | p::T,D=>S4 u rs g T (P4 p.2 (aL u rs p.1).sum (rl u rs g p.1 u.length) D)
noncomputable def mQ (u:List Int) (rs:List (List Int)) (g:List Int):Nat->F0
 | 0=>[(u5 u.length 0,1)]
 | k+1=>S4 u rs g (mQ u rs g k) []
theorem nF (u:List Int) (rs:List (List Int)) (g:List Int) (p:List Int × Rat):∀(T D:F0),S4 u rs g (T++[p]) D=P4 p.2 (aL u rs p.1).sum (rl u rs g p.1 u.length) (S4 u rs g T D)
 | [],D=>rfl
 | q::T,D=>by
  show S4 u rs g (T++[p]) _=P4 _ _ _ (S4 u rs g T _)
  exact nF u rs g p T _
theorem sD (g c:List Int) (i:Nat):uz g c (i+1)=if c.getD i 0<g.getD i 0 then uz g c i++[i] else uz g c i:=by
 unfold uz
 rw[HD,List.filter_append]
 by_cases h:c.getD i 0<g.getD i 0
 ·rw[if_pos h,Gu,if_pos (decide_eq_true h)];rfl
 ·rw[if_neg h,Gu,if_neg (by rw[decide_eq_false h];decide)];simp
theorem Ek (u:List Int) (rs:List (List Int)) (g c:List Int) (i:Nat):rl u rs g c (i+1)=if c.getD i 0<g.getD i 0 then rl u rs g c i++[((aL u rs c).getD i 0,inc c i)] else rl u rs g c i:=by
 unfold rl
 rw[sD]
 split
 ·rw[B0];rfl
 ·rfl
theorem DU (g c:List Int) (i:Nat):(uz g c i).length<=i:=by
 unfold uz
 exact j0 (List.length_filter_le _ _) (by rw[Fg];exact i6 _)
theorem zW (u:List Int) (rs:List (List Int)) (g c:List Int) (i:Nat):(rl u rs g c i).length<=i:=by
 unfold rl;rw[d8];exact DU g c i
structure Cn (u:List Int) (rs:List (List Int)) (n k:Nat) (c:List Int):Prop where
 len:c.length=n
 nn:∀x∈c,0<=x/\x<=(k:Int)
 urn:jP n (20+5*k) (aL u rs c)
theorem FX (c:List Int) (j:Nat):(inc c j).length=c.length:=by unfold inc;rw[aI]
variable {c:List Int}
theorem mK {j:Nat} (h:j<c.length):c.getD j 0∈c:=by
 rw[A2,f7 h];exact K9 h
theorem Cn.inc {u:List Int}{rs:List (List Int)}{n k j:Nat}{c:List Int} (hu:u.length=n) (hR:kF n 5 rs) (h:Cn u rs n k c) (hj:j<n):Cn u rs n (k+1) (Md.inc c j):=by
 refine ⟨by rw[FX];exact h.len,fun x hx=>?_,?_⟩
 ·have hm:=h.nn _ (mK (show j<c.length by rw[h.len];exact hj))
  unfold Md.inc at hx
  rcases bK hx with hx|hx
  ·have:=h.nn x hx;lia
  ·rw[hx];lia
 ·rw[uL hu h.len hR hj,show 20+5*(k+1)=20+5*k+5 by lia]
  exact h.urn.add (hR.at hj)
variable {u:List Int}{rs:List (List Int)}{n:Nat}
theorem Cn.zero (h:jP n 20 u):Cn u rs n 0 (u5 u.length 0):=by
 refine ⟨by rw[P1];exact h.len,fun x hx=>?_,?_⟩
 ·rw[bV hx];lia
 ·rw[qO];exact h
noncomputable def KC (u:List Int) (rs:List (List Int)) (n k:Nat) (T:F0):Prop:=∀p∈T,Cn u rs n k p.1
theorem KC.add {k:Nat}{D:F0}{x:Rat} (h:KC u rs n k D) (hk:Cn u rs n k c):KC u rs n k (bw D c x):=fun p hp=>by
 rcases eU hp with e|⟨q,hq,e⟩
 ·rw[e];exact hk
 ·rw[<- e];exact h q hq
theorem Gf {g:List Int}{i:Nat}{b:Int × List Int} (h:b∈rl u rs g c i):∃j,j<i/\b=((aL u rs c).getD j 0,inc c j):=by
 unfold rl at h
 obtain ⟨j,hj,e⟩:=List.mem_map.mp h
 unfold uz at hj
 exact ⟨j,List.mem_range.mp (List.mem_filter.mp hj).1,e.symm⟩
theorem qc {u:List Int}{rs:List (List Int)}{n k N E:Nat}{x:Rat}{s:Int} (hx:Vq N E x) (hs:0<s) (hs2:s<=200):∀(bs:List (Int × List Int)) {D:F0}{B:Nat},(∀b∈bs,(0<=b.1/\b.1<=s)/\Cn u rs n k b.2)->KC u rs n k D->fN D->cY (N*LL) B D ->
  KC u rs n k (P4 x s bs D)/\fN (P4 x s bs D)/\cY (N*LL) (B+E*bs.length) (P4 x s bs D)/\(P4 x s bs D).length<=D.length+bs.length
 | [],D,B,_,h1,h2,h3=>⟨h1,h2,h3,by unfold P4;simp⟩
 | b::bs,D,B,h,h1,h2,h3=>by
  unfold P4
  have hb:=h b i4
  have hv:Vq (N*LL) E (x*cut b.1 s):=(hx.mul (uH (by lia) hb.1.2 hs hs2)).mono (by lia)
  obtain ⟨a1,a2,a3,a4⟩:=qc hx hs hs2 bs (D:=bw D b.2 (x*cut b.1 s)) (fun c hc=>h c (i3 _ hc)) (h1.add hb.2) (oE h2) (h3.add hv)
  refine ⟨a1,a2,a3.mono ?_,?_⟩
  ·rw[m9,V0];lia
  ·have:=lz b.2 (x*cut b.1 s) D
   rw[m9];lia
theorem El {g:List Int}{k i:Nat}(hu:u.length=n) (hR:kF n 5 rs) (h:Cn u rs n k c) (hi:i<=n):∀b∈rl u rs g c i,(0<=b.1/\b.1<=(aL u rs c).sum)/\Cn u rs n (k+1) b.2:=fun b hb=>by
 obtain ⟨j,hj,e⟩:=Gf hb
 rw[e]
 exact ⟨⟨(h.urn.getD j).1,jn h.urn j⟩,h.inc hu hR (by lia)⟩
theorem mG {u:List Int}{rs:List (List Int)}{g:List Int}{n k N E:Nat} (hu:u.length=n) (hR:kF n 5 rs) (n4:n<=4) (hk:k<=6):∀(T:F0) {D:F0}{B:Nat},KC u rs n k T->cY N E T->KC u rs n (k+1) D->fN D->cY (N*LL) B D ->
  KC u rs n (k+1) (S4 u rs g T D)/\fN (S4 u rs g T D)/\cY (N*LL) (B+E*(4*T.length)) (S4 u rs g T D)/\(S4 u rs g T D).length<=D.length+n*T.length
 | [],D,B,_,_,h1,h2,h3=>⟨h1,h2,h3,by unfold S4;simp⟩
 | p::T,D,B,h,hE,h1,h2,h3=>by
  unfold S4
  have hp:=h p i4
  obtain ⟨b1,b2,b3,b4⟩:=qc (k:=k+1) (hE p i4) hp.urn.pos (oz hp.urn n4 (by lia)) (rl u rs g p.1 u.length) (El hu hR hp (by lia)) h1 h2 h3
  obtain ⟨a1,a2,a3,a4⟩:=mG (g:=g) hu hR n4 hk T (fun q hq=>h q (i3 _ hq)) (fun q hq=>hE q (i3 _ hq)) b1 b2 b3
  have e:=zW u rs g p.1 u.length
  refine ⟨a1,a2,a3.mono ?_,?_⟩
  ·have:E*(rl u rs g p.1 u.length).length<=E*4:=S1 _ (by lia)
   rw[m9,V0 4,V0 E];lia
  ·rw[m9,V0,BX];lia
theorem wJ {n:Nat}{rs:List (List Int)}{u:List Int} (g:List Int) (hR:kF n 5 rs) (n4:n<=4) (hu:jP n 20 u):∀k:Nat,k<=6->KC u rs n k (mQ u rs g k)/\fN (mQ u rs g k)/\cY (LL ^ k) (4 ^ (k*k)) (mQ u rs g k)/\(mQ u rs g k).length<=4 ^ k
 | 0,_=>⟨fun p hp=>by rw[List.mem_singleton.mp hp];exact Cn.zero hu,by unfold fN;simp[mQ],fun p hp=>by rw[List.mem_singleton.mp hp];exact Vq.one _,by show 1<=1;decide⟩
 | k+1,hk=>by
  obtain ⟨a1,a2,a3,a4⟩:=wJ g hR n4 hu k (by lia)
  obtain ⟨b1,b2,b3,b4⟩:=mG (D:=[]) (B:=0) (g:=g) hu.len hR n4 (by lia) (mQ u rs g k) a1 a3 (fun p hp=>by simp at hp) (by unfold fN;simp) (fun p hp=>by simp at hp)
  refine ⟨b1,b2,?_,?_⟩
  ·rw[fP]
   refine b3.mono ?_
   rw[K5]
   have e1:4*(mQ u rs g k).length<=4*4 ^ k:=S1 _ a4
   have e2:4 ^ (k*k)*(4*4 ^ k)<=4 ^ ((k+1)*(k+1)):=by
    rw[show 4*4 ^ k=4 ^ (k+1) by rw[fP,Ms],<- Q7]
    refine B1 (by decide) ?_
    rw[Nat.add_mul,V0,BX,Nat.one_mul];lia
   exact j0 (S1 _ e1) e2
  ·show (S4 u rs g (mQ u rs g k) []).length<=4 ^ (k+1)
   rw[O0,K5] at b4
   have:n*(mQ u rs g k).length<=4*4 ^ k:=E4 n4 a4
   rw[fP];lia
noncomputable def Lc (u:List Int) (rs:List (List Int)) (g:List Int) (φ:List Int->Rat) (c:List Int):Rat:=rK ((rl u rs g c u.length).map fun b=>cut b.1 (aL u rs c).sum*φ b.2)
theorem nH (u:List Int) (rs:List (List Int)) (g:List Int) (φ:List Int->Rat):∀(T D:F0),aG (S4 u rs g T D) φ=aG D φ+aG T (Lc u rs g φ)
 | [],D=>by unfold S4;show _=_+0;grind
 | p::T,D=>by
  unfold S4
  rw[nH u rs g φ T,mH,S5]
  unfold Lc
  grind
theorem FQ (u:List Int) (rs:List (List Int)) (g:List Int) (φ:List Int->Rat) (k:Nat):aG (mQ u rs g (k+1)) φ=aG (mQ u rs g k) (Lc u rs g φ):=by
 show aG (S4 u rs g (mQ u rs g k) []) φ=_
 rw[nH]
 show 0+_=_
 grind
noncomputable def cntD (n:Nat) (ds:List Nat):List Int:=(J9 n).map fun j=>((ds.count j:Nat):Int)
structure DrOk (u:List Int) (rs:List (List Int)) (n k:Nat) (e:List Nat × List Int × Rat):Prop where
 len:e.1.length=k
 lt:∀j∈e.1,j<n
 urn:e.2.1=aL u rs (cntD n e.1)
 ok:jP n (20+5*k) e.2.1
 vq:Vq (LL ^ k) 1 e.2.2
end Mq
namespace Mt
noncomputable def rp (s g:Int):Nat->Int
 | 0=>1
 | n+1=>rp s g n*(s+(n:Int)*g)
noncomputable abbrev fct (n:Nat):Int:=rp 1 1 n
noncomputable def tot:List Nat->Nat
 | []=>0
 | c::cs=>c+tot cs
noncomputable def KY (a:Int):List Nat->Int
 | []=>a
 | c::cs=>KY (a / fct c) cs
noncomputable def ordN (cs:List Nat):Int:=KY (fct (tot cs)) cs
noncomputable def rps (g:Int):List Int->List Nat->Int
 | b::bs,c::cs=>rp b g c*rps g bs cs
 | _,_=>1
noncomputable def cch (ns:List Int) (g:Int) (cs:List Nat):Rat:=cut (ordN cs*rps g ns cs) (rp ns.sum g (tot cs))
noncomputable def bnow (g:Int) (ns:List Int) (cs:List Nat):List Int:=yR (fun b (c:Nat)=>b+g*(c:Int)) ns cs
end Mt
namespace Mq
open PySem PySem.Spec L2 Mt Md
noncomputable def Lu (c:List Nat) (j:Nat):List Nat:=c.set j (c.getD j 0 - 1)
noncomputable def parts (ns:List Int) (g:Int) (c:List Nat) (j:Nat):Rat:=if 0<c.getD j 0 then cch ns g (Lu c j)*yY (bnow g ns (Lu c j)) j else 0
noncomputable def cntN (n:Nat) (ds:List Nat):List Nat:=(J9 n).map fun j=>ds.count j
noncomputable def iC (n:Nat) (c:List Nat) (ds:List Nat):Rat:=if cntN n ds=c then 1 else 0
theorem zw {D:F0}{k x:List Int}{r:Rat} (h:x=k ∨ x∈D.map (·.1)):x∈(bw D k r).map (·.1):=by
 induction D with
 | nil =>
  rcases h with h|h
  ·rw[h];exact List.mem_singleton.mpr rfl
  ·cases h
 | cons p D ih =>
  unfold bw
  split
  ·rename_i e
   rcases h with h|h
   ·rw[h]
    exact List.mem_cons.mpr (.inl (by first|rfl|exact e.symm|exact e))
   ·rcases List.mem_cons.mp h with h|h
    ·exact List.mem_cons.mpr (.inl (by first|exact h | (rw[h];exact e) | (rw[h,e])))
    ·exact List.mem_cons.mpr (.inr h)
  ·rcases h with h|h
   ·exact List.mem_cons.mpr (.inr (ih (.inl h)))
   ·rcases List.mem_cons.mp h with h|h
    ·exact List.mem_cons.mpr (.inl h)
    ·exact List.mem_cons.mpr (.inr (ih (.inr h)))
theorem tG {x:List Int}:∀{T:F0},fN T->aG T (fun k=>if k=x then (1:Rat) else 0)=fh T x
 | [],_=>rfl
 | p::T,h=>by
  have h1:p.1 ∉ T.map (·.1)/\fN T:=by unfold fN at h ⊢;rw[A9,P7] at h;exact h
  rw[S5,tG h1.2]
  show p.2*(if p.1=x then (1:Rat) else 0)+fh T x=if p.1=x then p.2 else fh T x
  by_cases e:p.1=x
  ·have hz:fh T x=0:=tH T (by rw[<- e];exact h1.1)
   rw[if_pos e,if_pos e,hz];grind
  ·rw[if_neg e,if_neg e];grind
end Mq
set_option maxHeartbeats 4000000
namespace Mq
open PySem PySem.Spec PyProof.Rows L2 Mt Md
structure yK (n m N B L:Nat) (D:F0) (S:(List Int->Rat)->Rat) (ks:List Int->Prop):Prop where
 keys:fx n m D
 nd:fN D
 all:cY N B D
 len:D.length<=L
 lin:∀φ,aG D φ=S φ
 mem:∀k,k∈D.map (·.1) ↔ ks k
theorem yK.nil (n m N:Nat):yK n m N 0 0 [] (fun _=>0) (fun _=>False):=
 ⟨fun p hp=>by simp at hp,by unfold fN;simp,fun p hp=>by simp at hp,i6 _,fun _=>rfl,fun k=>by simp⟩
theorem yK.add {n m N B L C:Nat}{D:F0}{S:(List Int->Rat)->Rat}{ks:List Int->Prop}{k:List Int}{x:Rat} (h:yK n m N B L D S ks) (hk:jP n m k) (hx:Vq N C x):
  yK n m N (B+C) (L+1) (bw D k x) (fun φ=>S φ+x*φ k) (fun z=>z=k ∨ ks z) where
 keys:=h.keys.add hk
 nd:=oE h.nd
 all:=cY.add hx h.all
 len:=j0 (lz k x D) (Nat.succ_le_succ h.len)
 lin:=fun φ=>by rw[qC,h.lin]
 mem:=fun z=>by
  constructor
  ·intro hz
   obtain ⟨p,hp,rfl⟩:=List.mem_map.mp hz
   rcases eU hp with e|⟨q,hq,e⟩
   ·exact .inl e
   ·exact .inr ((h.mem _).mp (List.mem_map.mpr ⟨q,hq,e⟩))
  ·rintro (e|e)
   ·exact zw (.inl e)
   ·exact zw (.inr ((h.mem _).mpr e))
variable {n:Nat}
theorem yK.eqS {m N B L:Nat}{D:F0}{S S':(List Int->Rat)->Rat}{ks ks':List Int->Prop} (h:yK n m N B L D S ks) (e1:∀φ,S φ=S' φ) (e2:∀k,ks k ↔ ks' k):yK n m N B L D S' ks' :=
 ⟨h.keys,h.nd,h.all,h.len,fun φ=>(h.lin φ).trans (e1 φ),fun k=>(h.mem k).trans (e2 k)⟩
theorem yK.mono {n m N B B' L L':Nat}{D:F0}{S:(List Int->Rat)->Rat}{ks:List Int->Prop} (h:yK n m N B L D S ks) (hB:B<=B') (hL:L<=L'):yK n m N B' L' D S ks :=
 ⟨h.keys,h.nd,h.all.mono hB,j0 h.len hL,h.lin,h.mem⟩
noncomputable def fU (n:Nat):List Int:=u5 n 100
theorem zI {j:Nat} (h:j<n):(fU n).getD j 0=100:=by
 unfold fU
 rw[A2,xy,if_pos h];rfl
theorem zv {n k:Nat}{u c:List Int}{rs:List (List Int)} (h:Cn u rs n k c) (hk:k<=6):∀i:Nat,i<=n->uz (fU n) c i=J9 i
 | 0,_=>rfl
 | i+1,hi=>by
  have hb:=h.nn (c.getD i 0) (mK (by rw[h.len];lia))
  rw[sD,if_pos (by rw[zI (by lia)];lia),zv h hk i (by lia),HD]
theorem IG {k:Nat}{u c:List Int}{rs:List (List Int)} (hu:u.length=n) (hR:kF n 5 rs) (h:Cn u rs n k c) (hk:k<=6) (φ:List Int->Rat):Lc u rs (fU n) (fun d=>φ (aL u rs d)) c=II rs φ (aL u rs c):=by
 unfold Lc II rl
 have hl:(aL u rs c).length=n:=h.urn.len
 rw[hl,hu,zv h hk n (i6 _),R8]
 congr 1
 refine Ca fun j hj=>?_
 have hj':=List.mem_range.mp hj
 show cut ((aL u rs c).getD j 0) (aL u rs c).sum*φ (aL u rs (inc c j))=yY (aL u rs c) j*φ (bP (aL u rs c) (rs.getD j []))
 rw[uL hu h.len hR hj']
 rfl
theorem Em {n:Nat}{rs:List (List Int)}{u:List Int} (hR:kF n 5 rs) (n4:n<=4) (hu:jP n 20 u):∀(k:Nat),k<=6->∀φ:List Int->Rat,aG (mQ u rs (fU n) k) (fun c=>φ (aL u rs c))=aG (nQ rs k [(u,1)]) φ
 | 0,_,φ=>by
  show 1*φ (aL u rs (u5 u.length 0))+0=1*φ u+0
  rw[qO]
 | k+1,hk,φ=>by
  have kk:=(nP hR n4 hu k (by lia)).1
  have kc:=(wJ (fU n) hR n4 hu k (by lia)).1
  rw[FQ]
  show _=aG (jX rs (nQ rs k [(u,1)])) φ
  rw[AQ kk.pos,<- Em hR n4 hu k (by lia) (II rs φ)]
  exact qB fun p hp=>IG hu.len hR (kc p hp) (by lia) φ
theorem KG (x y:Rat):x<y ∨ y<=x:=by
 by_cases h:y<=x
 ·exact .inr h
 ·exact .inl (Rat.not_le.mp h)
noncomputable def rT (D:F0):Prop:=∀p∈D,0<p.2
theorem vL {x y:Rat} (h1:0<x) (h2:0<y):0<x+y:=by grind
theorem zf {k:List Int}{x:Rat} (hx:0<x):∀{D:F0},rT D->rT (bw D k x)
 | [],_=>fun p hp=>by
  have:p=(k,x):=by
   unfold bw at hp
   exact List.mem_singleton.mp hp
  rw[this];exact hx
 | q::D,h=>fun p hp=>by
  unfold bw at hp
  split at hp
  ·rcases List.mem_cons.mp hp with e|e
   ·rw[e];exact vL (h q i4) hx
   ·exact h p (i3 _ e)
  ·rcases List.mem_cons.mp hp with e|e
   ·rw[e];exact h q i4
   ·exact zf hx (fun p hp=>h p (i3 _ hp)) p e
theorem Ge {t s:Int} (ht:0<t) (hs:0<s):0<cut t s:=by
 have h:=il (t:=t) hs
 have h1:(0:Rat)<((t:Int):Rat):=lI ht
 rw[<- h] at h1
 have h2:(0:Rat)<((s:Int):Rat):=lI hs
 rcases KG 0 (cut t s) with z|z
 ·exact z
 ·exfalso
  have:=ee z (Mr h2)
  grind
theorem vQ {x:Rat}{s:Int} (hx:0<x) (hs:0<s):∀{bs:List (Int × List Int)}{D:F0},(∀b∈bs,0<b.1)->rT D->rT (P4 x s bs D)
 | [],D,_,h=>h
 | b::bs,D,hb,h=>by
  show rT (P4 x s bs (bw D b.2 (x*cut b.1 s)))
  exact vQ hx hs (fun b' h'=>hb b' (i3 _ h')) (zf (Rat.mul_pos hx (Ge (hb b i4) hs)) h)
theorem vR {rs:List (List Int)}:∀{T D:F0},(∀p∈T,0<p.1.sum)->rT T->rT D->rT (R4 rs T D)
 | [],D,_,_,h=>h
 | p::T,D,hs,hT,h=>by
  show rT (R4 rs T (P4 p.2 p.1.sum (pj rs p.1) D))
  refine vR (fun q hq=>hs q (i3 _ hq)) (fun q hq=>hT q (i3 _ hq)) ?_
  exact vQ (hT p i4) (hs p i4) (fun b hb=>eG hb) h
theorem Ej {n:Nat}{rs:List (List Int)}{u:List Int} (hR:kF n 5 rs) (n4:n<=4) (hu:jP n 20 u):∀(k:Nat),k<=6->rT (nQ rs k [(u,1)])
 | 0,_=>fun p hp=>by
  have:p=(u,1):=List.mem_singleton.mp hp
  rw[this];show (0:Rat)<1;decide
 | k+1,hk=>by
  have kk:=(nP hR n4 hu k (by lia)).1
  exact vR (fun p hp=>(kk.pos p hp).2) (Ej hR n4 hu k (by lia)) (fun p hp=>by simp at hp)
theorem uq {φ:List Int->Rat}:∀{T:F0},(∀p∈T,0<=p.2)->(∀u,0<=φ u)->(0<aG T φ ↔ ∃p∈T,0<p.2/\0<φ p.1)
 | [],_,_=>by
  constructor
  ·intro h
   have:(0:Rat)<0:=h
   grind
  ·rintro ⟨p,hp,_⟩
   simp at hp
 | q::T,hT,hφ=>by
  have ih:=uq (φ:=φ) (T:=T) (fun p hp=>hT p (i3 _ hp)) hφ
  have h1:=hT q i4
  have h2:=hφ q.1
  have h3:0<=aG T φ:=zq hφ fun p hp=>hT p (i3 _ hp)
  have h4:0<=q.2*φ q.1:=kS h1 h2
  rw[S5]
  constructor
  ·intro h
   rcases KG 0 (q.2*φ q.1) with z|z
   ·refine ⟨q,i4,?_,?_⟩
    ·rcases KG 0 q.2 with y|y
     ·exact y
     ·have:q.2=0:=by grind
      rw[this] at z;grind
    ·rcases KG 0 (φ q.1) with y|y
     ·exact y
     ·have:φ q.1=0:=by grind
      rw[this] at z;grind
   ·obtain ⟨p,hp,hh⟩:=ih.mp (by grind)
    exact ⟨p,i3 _ hp,hh⟩
  ·rintro ⟨p,hp,h5,h6⟩
   rcases List.mem_cons.mp hp with e|e
   ·subst e
    have:=Rat.mul_pos h5 h6
    grind
   ·have:=ih.mpr ⟨p,e,h5,h6⟩
    grind
noncomputable def GN (x:List Int):List Int->Rat:=fun k=>if k=x then 1 else 0
theorem DV (x k:List Int):0<=GN x k:=by unfold GN;split <;> grind
theorem oH {x k:List Int}:0<GN x k ↔ k=x:=by
 unfold GN
 split
 ·rename_i h
  exact ⟨fun _=>h,fun _=>by grind⟩
 ·rename_i h
  exact ⟨fun z=>by grind,fun z=>absurd z h⟩
theorem Ee {k m N B L:Nat}{rs:List (List Int)}{u:List Int}{D:F0} (hR:kF n 5 rs) (n4:n<=4) (hu:jP n 20 u) (hk:k<=6) (h:yK n m N B L D (fun φ=>aG (mQ u rs (fU n) k) (fun c=>φ (aL u rs c))) (fun z=>∃p∈mQ u rs (fU n) k,0<p.2/\aL u rs p.1=z)):D.Perm (nQ rs k [(u,1)]):=by
 have nd:=(nP hR n4 hu k hk).2.1
 have hv:∀x,fh D x=fh (nQ rs k [(u,1)]) x:=fun x=>by
  rw[<- tG h.nd,<- tG nd,h.lin]
  exact Em hR n4 hu k hk (GN x)
 refine vT h.nd nd (fun x=>?_) hv
 rw[h.mem]
 have hcn:∀p∈mQ u rs (fU n) k,0<=p.2:=fun p hp=>((wJ (fU n) hR n4 hu k hk).2.2.1 p hp).nn
 have hpos:=Ej hR n4 hu k hk
 have h1:=uq (φ:=fun c=>GN x (aL u rs c)) hcn (fun c=>DV x _)
 rw[Em hR n4 hu k hk (GN x)] at h1
 have h2:=uq (φ:=GN x) (fun p hp=>Mr (hpos p hp)) (fun c=>DV x c)
 constructor
 ·rintro ⟨p,hp,p1,p2⟩
  obtain ⟨q,hq,_,q2⟩:=h2.mp (h1.mpr ⟨p,hp,p1,oH.mpr p2⟩)
  exact List.mem_map.mpr ⟨q,hq,oH.mp q2⟩
 ·intro hx
  obtain ⟨q,hq,e⟩:=List.mem_map.mp hx
  obtain ⟨p,hp,p1,p2⟩:=h1.mp (h2.mpr ⟨q,hq,hpos q hq,oH.mpr e⟩)
  exact ⟨p,hp,p1,oH.mp p2⟩
end Mq
namespace L2
open PySem PySem.Spec PyProof.Rows
section
variable {K:m6}{σ0:St}{te:TE}{H:Hp}{F:List V->Hp->Prop}
end
section
variable {X:Cx}
end
section
variable {X:Cx}{K:m6}
end
section
variable {prog:j7}{w:u9}{A:A8}{E:b9->d9->Prop}{s:d9}
end
section
variable {X:Cx}
end
section
variable {X:Cx}{K:m6}
end
section
variable {prog:j7}{w:u9}{A:A8}{E:b9->d9->Prop}{s:d9}
end
section
variable {X:Cx}{pins:List (Addr × Obj)}{σ:St}{H:Hp}{s:d9}
end
section
variable {prog:j7}{w:u9}{A:A8}{E:b9->d9->Prop}{s:d9}
variable {d:Addr}{od:Obj}{es:Array M4}{ep:Nat}
theorem yw {Q:b9->d9->Prop} (hd:(d == Y0)=false) (hT:s.TypeIs (.ref d) "dict") (at_d:s.heap.get? d=some od) (dat:od.data=.dict es ep)
  (q:Q (.ref s.heap.objs.size) { s with heap:=s.heap.push { cls:=.type "dict_keyiterator",data:=.fields #[.ref d,.int 0 0,.int es.size 0,.int ep 0] } }):
  j6 (r6 prog w) A (nW (.ref d)) Q E s:=by
 refine sT hT Kh (D5 Kh hT F.entry_dict_iter ?_ (F.args_dict_iter_1 _))
 unfold cg.«dict.__iter__»
 refine b7 ?_
 unfold Builtin.Dict.dictSlotNone
 refine b7 (Gn hT ?_)
 show j6 _ _ (pure (n5 d)) _ _ s
 refine d6 ?_
 show j6 _ _ (cf d >>= _) _ _ s
 unfold cf
 rw[if_neg (by rw[hd];exact t7)]
 refine b7 (d6 ?_)
 refine b7 (W1 at_d dat (b7 (Z1 at_d dat ?_)))
 refine b7 ?_
 unfold newFields
 refine B6 (d6 ⟨_,rfl,"dict_keyiterator",_,⟨_,j9 _ rfl,rfl⟩,F.slot_dict_keyiterator_next.lookup,?_⟩)
 simpa [U9] using q
theorem yx {it:Addr}{i:Nat}{en:M4}{Q:Option b9->d9->Prop} (on:s.heap.IsKeyIter it d i es.size ep)
  (at_d:s.heap.get? d=some od) (dat:od.data=.dict es ep) (hx:es[i]?=some en)
  (q:∀h',h'.IsKeyIter it d (i+1) es.size ep->G2 it s.heap h'->Q (some en.key) { s with heap:=h' }):j6 (r6 prog w) A (Y1 (.ref it)) Q E s:=by
 obtain ⟨ob,at_i,cls_i,flds⟩:=id on
 unfold Y1
 refine b7 (Q2 (C0 (name:=P9 "__next__") on.typeIs aZ (D5 aZ on.typeIs uW ?_ (tD _))))
 refine b7 (d6 (b7 (b7 ?_)))
 first|refine b7 (aQ on.typeIs (d6 ?_))|refine b7 (cN on.typeIs (d6 ?_))
 refine b7 (aA at_i flds ?_)
 have own:J8 "dict_keyiterator"=false:=by decide
 simp only[own,F9,if_false]
 show j6 _ _ (if (n5 d == B5)=true then _ else _) _ _ s
 rw[if_neg (show ¬ ((n5 d == B5)=true) from t7)]
 refine b7 (d6 (b7 (W1 at_d dat ?_)))
 rw[if_neg (by simp)]
 refine b7 (d6 (b7 (Z1 at_d dat ?_)))
 rw[if_neg (by simp)]
 refine d6 ?_
 have lt:i<es.size:=(Array.getElem?_eq_some_iff.mp hx).1
 have ev:es[i]=en:=by rw[O4 lt] at hx;exact C1 hx
 simp only[show ¬ ((i:Int)<0) from by lia,if_false,M3,O4 lt]
 refine b7 ?_
 first|refine b7 (aQ on.typeIs (d6 ?_))|refine b7 (cN on.typeIs (d6 ?_))
 refine b7 (Gq on.typeIs ?_)
 show j6 _ _ (iG (.ref it) 1 (U9 ((i:Int)+1)) >>= _) _ _ s
 refine b7 (X9 at_i flds (by simp) ?_)
 have on':(s.heap.update it (R7 (·.setIfInBounds 1 (U9 ((i:Int)+1))))).IsKeyIter it d (i+1) es.size ep :=
  ⟨_,L7 _ at_i (aY (Q3 flds _)),(oW ..).trans cls_i,by rw[Q3 flds];simp[U9]⟩
 have ty':dJ { s with heap:=s.heap.update it (R7 (·.setIfInBounds 1 (U9 ((i:Int)+1)))) } (.ref it) "dict_keyiterator":=on'.typeIs (s:={ s with heap:=s.heap.update it (R7 (·.setIfInBounds 1 (U9 ((i:Int)+1)))) })
 refine b7 (L8 (b7 (Gq ty' ?_)))
 show j6 _ _ (pure es[i].key) _ _ _
 rw[ev]
 exact d6 (d6 ⟨_,rfl,d6 (q _ on' (Q5 ..))⟩)
theorem AV {it:Addr}{i:Nat}{Q:Option b9->d9->Prop} (hh:A.handled=none) (on:s.heap.IsKeyIter it d i es.size ep)
  (at_d:s.heap.get? d=some od) (dat:od.data=.dict es ep) (hge:es.size<=i) (q:∀h',eM it s.heap h'->Q none { s with heap:=h' }):j6 (r6 prog w) A (Y1 (.ref it)) Q E s:=by
 obtain ⟨ob,at_i,cls_i,flds⟩:=id on
 unfold Y1
 refine b7 (Q2 (C0 (name:=P9 "__next__") on.typeIs aZ (D5 aZ on.typeIs uW ?_ (tD _))))
 refine b7 (d6 (b7 (b7 ?_)))
 first|refine b7 (aQ on.typeIs (d6 ?_))|refine b7 (cN on.typeIs (d6 ?_))
 refine b7 (aA at_i flds ?_)
 have own:J8 "dict_keyiterator"=false:=by decide
 simp only[own,F9,if_false]
 show j6 _ _ (if (n5 d == B5)=true then _ else _) _ _ s
 rw[if_neg (show ¬ ((n5 d == B5)=true) from t7)]
 refine b7 (d6 (b7 (W1 at_d dat ?_)))
 rw[if_neg (by simp)]
 refine b7 (d6 (b7 (Z1 at_d dat ?_)))
 rw[if_neg (by simp)]
 refine d6 ?_
 simp only[show ¬ ((i:Int)<0) from by lia,if_false,M3,iW hge]
 refine b7 ?_
 first|refine b7 (aQ on.typeIs (d6 ?_))|refine b7 (cN on.typeIs (d6 ?_))
 show j6 _ _ (iG (.ref it) 0 .none >>= _) _ _ s
 refine b7 (X9 at_i flds (by simp) ?_)
 show j6 _ _ (vh (.type "StopIteration") [] >>= _) _ _ _
 refine b7 ?_
 simp only[vh,Af]
 refine b7 (B6 ?_ (by size_fits))
 refine b7 (m:=aB _ _) (nV (a:=B5) (by first|rfl | (simp only[aB];rfl)) ?_)
 refine B6 ?_ (by size_fits)
 simp only[GZ]
 refine b7 (qW ?_)
 rw[show A.in1.handled=none from hh]
 refine b7 (d6 (wX ?_))
 refine b7 (fC (T:="StopIteration") (b:=true) ⟨_,j9 _ rfl,rfl⟩ iH ?_)
 exact d6 (q _ (((Q5 ..).extBut.push _).push _))
end
section
variable {X:Cx}{pins:List (Addr × Obj)}{σ:St}{H:Hp}{s:d9}
noncomputable def Itk (d:Addr) (o:Obj) (kvs:List (List S6 × V)):It :=
 ⟨fun i H=>H d=some (.frz o (.dT kvs))/\i<kvs.length,fun i H v H'=>∃ka k x,v=.ref ka/\H'=H/\kvs[i]?=some (k,x)/\H ka=some (.tup (k.map kV)),fun i H=>H d=some (.frz o (.dT kvs))/\kvs.length<=i⟩
theorem Aw {P:j7}{w:u9}{K:m6}{tg:Expr}{d it:Addr}{o:Obj}{kvs:List (List S6 × V)}{es:Array M4}{ep:Nat} (hd:o.data=.dict es ep):
  rS P w K tg (Itk d o kvs) [it] it (fun i h=>h.IsKeyIter it d i es.size ep) where
 mem:=by simp
 obj:=fun i h st c hc=>by
  obtain ⟨ob,e,_,dd⟩:=st
  simp only[A0,y7,or_false] at hc
  subst hc
  exact ⟨_,e,fun v q=>by rw[dd] at q;cases q⟩
 keep:=fun i h h' st k=>st.at fun o e=>k it (by simp) o e
 item:=by
  intro X hP hw hK hc i pins s σ H E I hf st hg
  subst hP hw hK
  obtain ⟨hF,hi⟩:=hg
  obtain ⟨h1,hsz,hget⟩:=I.frzT hF hd
  obtain ⟨⟨k,x⟩,hkx⟩:∃kx,kvs[i]?=some kx:=⟨_,f7 hi⟩
  obtain ⟨ka,u,en,e1,e2,e3,e4,ru⟩:=hget i k x hkx
  obtain ⟨f0,f1,f2,f3,f4,f5⟩:=hf it (by simp)
  refine yx st h1 hd e1 fun h' st' sb=>?_
  rw[e2]
  have I1:C8 X pins σ H { s with heap:=h' }:=I.turned (t':=s.toks) (fun b o hb e=>(sb.2 b hb).trans e) f0 f1 f3 f4 f5
  obtain ⟨ob,e,c,dd⟩:=id st'
  exact ⟨_,rfl,zG (s:={ s with heap:=h' }) e c dd (by decide) ⟨.ref ka,H,I1,rfl,⟨ka,k,x,rfl,rfl,hkx,e4⟩,st',fun b hb=>(hf b hb).1⟩⟩
 done:=by
  intro X hP hw hK hc i pins s σ H E I hf st hg
  subst hP hw hK
  obtain ⟨hF,hi⟩:=hg
  obtain ⟨h1,hsz,_⟩:=I.frzT hF hd
  exact AV (I.ok.hd hc) st h1 hd (by lia) fun h' keep=>⟨rfl,I.turnedL (t':=s.toks) (ch:=[it]) (fun c o hc e=>keep c o (fun q=>hc (by simp[q])) e) hf⟩
 self:=fun _ _ _ _ _ st h=>wpAny_pyIter_keyiter st h
noncomputable def Lm (td:TE):TI:=fun σ H R=>td σ H fun x H1=>∃d kvs,x=.ref d/\H1 d=some (.dT kvs)/\∀o,R (Itk d o kvs) (n8 H1 d (.frz o (.dT kvs)))
theorem FA {e tg:Expr}{td:TE} (ho:PE X e td):PI X tg e (Lm td):=by
 intro pins s σ H R I h
 refine W8 (ho pins s σ H _ I h) fun v s1 ⟨x,H1,I1,r1,d,kvs,ex,hd,q⟩=>?_
 subst ex
 cases r1
 obtain ⟨o,es,ep,hdat,hob,I2⟩:=I1.freeze hd
 obtain ⟨_,hsys,_,_,o',_,_,hob',hex,_⟩:=(show M9 X.prog X.w H1 s1.heap d (.dT kvs) from I1.hok d _ hd)
 rw[hob] at hob'
 cases hob'
 refine yw hsys ⟨o,hob,hex.1⟩ hob hdat ?_
 refine ⟨_,[_],_,_,n8 H1 d (.frz o (.dT kvs)),rfl,I2.kept (t':=s1.toks) fun b o e=>d7 _ e,Aw hdat,⟨_,j9 _ rfl,rfl,rfl⟩,fun b hb=>?_,q o⟩
 have e:b=s1.heap.objs.size:=by simpa using hb
 subst e
 exact I2.fpOk (i6 _) (I2.hok.fresh (i6 _))
end
theorem Er {K:m6}{d:Addr}{o:Obj}{kvs:List (List S6 × V)}{σ0:St}{tc:TT}{te:TE}{H:Hp}{F:List V->Hp->Prop} (hn:kvs.length<=i0) (Pv:Nat->List V->Hp->Prop) (h0:Pv 0 [] H) (hl:∀i ys H,Pv i ys H->ys.length<=i)
  (hq:∀i ys H,i<=kvs.length->Pv i ys H->H d=some (.frz o (.dT kvs))) (hσ:σ0[0]?=some none)
  (hs:∀i ys H k x ka,kvs[i]?=some (k,x)->H ka=some (.tup (k.map kV))->Pv i ys H->tc (σ0.set 0 (some (.ref ka))) H fun b H5=>if b=true then te (σ0.set 0 (some (.ref ka))) H5 (fun z H'=>Pv (i+1) (ys++[z]) H') else Pv (i+1) ys H5)
  (hd:∀ys H,Pv kvs.length ys H->F ys H):EA (Itk d o kvs) σ0 (bC 0) tc te H F:=by
 refine ⟨fun i m ys H=>m=kvs.length - i/\i<=kvs.length/\Pv i ys H,⟨kvs.length,by simp,v8 _,h0⟩,?_⟩
 rintro i m ys H2 ⟨rfl,hi,p⟩
 have q:=hq i ys H2 hi p
 have hlen:=hl i ys H2 p
 refine ⟨by lia,?_⟩
 by_cases hlt:i<kvs.length
 ·refine .inr ⟨⟨q,hlt⟩,fun y H'=>Pv (i+1) (ys++[y]) H',fun H'=>Pv (i+1) ys H',fun y H' q=>⟨kvs.length - (i+1),by lia,rfl,hlt,q⟩,fun H' q=>⟨kvs.length - (i+1),by lia,rfl,hlt,q⟩,fun v H3 yld=>?_⟩
  obtain ⟨ka,k,x,rfl,rfl,hx,hk⟩:=yld
  exact ⟨Wk.set (.inl hσ),hs i ys _ k x ka hx hk p⟩
 ·have e:i=kvs.length:=by lia
  subst e
  exact .inl ⟨⟨q,i6 _⟩,hd ys H2 p⟩
section
variable {X:Cx}
open Classical in
end
end L2
namespace G
open PySem PySem.Spec PyProof.Rows L2 Mt Md Mq
theorem zF:∀(c:List Int) (k:Nat),k<c.length->inc c k=c.take k++[c.getD k 0+1]++c.drop (k+1)
 | x::c,0,_=>rfl
 | x::c,k+1,h=>by
  have:=zF c k (by simpa using h)
  show x::inc c k=_
  rw[this];rfl
section
variable {P:j7}{w:u9}{K:m6}{mg:Str->Option b9}{base:Heap}{f:Addr}{fd:C5}{ec:Nat->Addr}{Bs:Addr}
noncomputable def CD:Sp:=fun vs H Q _=>∃(a st:Addr) (v:V) (n k:Nat) (ns:List Int) (rs:List (List Int)),vs=[.ref a,v,.int k]/\H a=some (.tup (ns.map V.int))/\Mt.jP n 20 ns/\Dt st H (DR rs) v/\Mt.kF n 5 rs/\1<=n/\n<=4/\k<=6 /\
 ∀p kvs H',i8 H H'->H p=none->H' p=some (.dT kvs)->QE H' (mQ ns rs (fU n) k) kvs->Q (.ref p) H'
noncomputable abbrev Io:Stmt:=gI 48
theorem je:D8 ["_law_urn","_law_rule_here","_law_draws","_law_here","_law_turn","_law_later","_law_counts","_law_odds","_law_one","_law_kind","_law_there","_law_part"] ["_law_urn","_law_rule_here","_law_draws"] (w6 Io):=⟨rfl,rfl,rfl,by decide +kernel,rfl,by decide +kernel,by decide +kernel⟩
theorem Li (F:cH K "_law_by_counts" "_law_by_counts" Io f fd) (B:Bt mg) (c1:W5 P w K mg base 3 "_law_behind" ["_law_urn","_law_rule_here","_law_counts"] tM) (c2:W5 P w K mg base 3 "_law_by" ["_law_one","_law_other"] gh) (c3:W5 P w K mg base 3 "_law_fraction" ["_law_top","_law_bottom"] pK) (c4:W5 P w K mg base 3 "_law_plus" ["_law_one","_law_other"] gS):O5 P w K mg base dQ 4 f fd ["_law_urn","_law_rule_here","_law_draws"] CD:=by
 refine F.ok je (fun vs H Q E h=>?_) (fun cdv A outer s H vs Q E hr h=>?_)
 ·obtain ⟨a,st,v,n,k,ns,rs,rfl,_⟩:=h
  rfl
 obtain ⟨a,st,v,n,k,ns,rs,rfl,ha,hU,hv,hR,n1,n4,k6,q⟩:=h
 refine ⟨_,(@m7 _ _ _ _ _ (@F8 _ _ 3 _ _ _ _ je.nd rfl (A5 rfl) (Di (lD hr) (@B7 _ _ _ _ _ _ _ _ Ir (@C7 _ _ _ _ _ (@b8 _ _ _ _ _ i9 f6 (by rfl))) (n9 D6 rfl B.len C4 (@b8 _ _ _ _ _ (pv 0) f6 (by rfl)))) (@C7 _ _ _ _ _ (@b8 _ _ _ _ _ i9 (@b8 _ _ _ _ _ i9 f6 (by rfl)) (by rfl)))) (by rfl) (by first|exact .inl rfl|exact .inr rfl))
  (@m7 _ _ _ _ _ (fq K3 rfl (S2 rfl B.range (@b8 _ _ _ _ _ (pv 2) f6 (by rfl))) (W3 (i:=4) je.nd rfl (A5 rfl))
  (@m7 _ _ _ _ _ (@F8 _ _ 5 _ _ _ _ je.nd rfl (A5 rfl) qi (by rfl) (by first|exact .inl rfl|exact .inr rfl))
  (@m7 _ _ _ _ _ (fq K3 rfl (qh (pv 3)) (mB rfl (M6 (W3 (i:=6) je.nd rfl (A5 rfl)) (M6 (W3 (i:=7) je.nd rfl (A5 rfl)) cw)))
  (@m7 _ _ _ _ _ (@F8 _ _ 8 _ _ _ _ je.nd rfl (A5 rfl) (B4 c1 hr rfl (@b8 _ _ _ _ _ (pv 0) (@b8 _ _ _ _ _ (pv 1) (@b8 _ _ _ _ _ (pv 6) f6 (by rfl)) (by rfl)) (by rfl))) (by rfl) (by first|exact .inl rfl|exact .inr rfl))
  (@t6 _ _ _ (fq K3 rfl (S2 rfl B.range (@b8 _ _ _ _ _ (n9 D6 rfl B.len C4 (@b8 _ _ _ _ _ (pv 0) f6 (by rfl))) f6 (by rfl))) (W3 (i:=9) je.nd rfl (A5 rfl))
  (@m7 _ _ _ _ _ (@F8 _ _ 10 _ _ _ _ je.nd rfl (A5 rfl) (@B7 _ _ _ _ _ _ _ _ jr (@B7 _ _ _ _ _ _ _ _ jr (@P5 _ _ _ _ _ _ _ _ _ _ sq (pv 6) U5 (U4 (pv 9))) (@C7 _ _ _ _ _ (@b8 _ _ _ _ _ (@B7 _ _ _ _ _ _ _ _ X8 (@M7 _ _ _ _ _ _ _ R5 (pv 6) (pv 9) (fun _ _=>rfl)) i9) f6 (by rfl)))) (@P5 _ _ _ _ _ _ _ _ _ _ sq (pv 6) (U4 (@B7 _ _ _ _ _ _ _ _ X8 (pv 9) i9)) U5)) (by rfl) (by first|exact .inl rfl|exact .inr rfl))
  (@m7 _ _ _ _ _ (@F8 _ _ 11 _ _ _ _ je.nd rfl (A5 rfl) (B4 c2 hr rfl (@b8 _ _ _ _ _ (pv 7) (@b8 _ _ _ _ _ (B4 c3 hr rfl (@b8 _ _ _ _ _ (@M7 _ _ _ _ _ _ _ R5 (pv 8) (pv 9) (fun _ _=>rfl)) (@b8 _ _ _ _ _ (n9 (cC rfl) rfl B.sum Ah (@b8 _ _ _ _ _ (pv 8) f6 (by rfl))) f6 (by rfl)) (by rfl))) f6 (by rfl)) (by rfl))) (by rfl) (by first|exact .inl rfl|exact .inr rfl))
  (@t6 _ _ _ (tZ (lD hr) (pv 5) (pv 10) (B4 c4 hr rfl (@b8 _ _ _ _ _ (qj (lD hr) (pv 5) (pv 10) (@C7 _ _ _ _ _ (@b8 _ _ _ _ _ i9 (@b8 _ _ _ _ _ i9 f6 (by rfl)) (by rfl))) ⟨rfl,rfl,rfl,rfl⟩) (@b8 _ _ _ _ _ (pv 11) f6 (by rfl)) (by rfl))) rfl))))))))
  (@t6 _ _ _ (@F8 _ _ 3 _ _ _ _ je.nd rfl (A5 rfl) (pv 5) (by rfl) (by first|exact .inl rfl|exact .inr rfl))))))
  (@t6 _ _ _ (C6 (pv 3))))),?_⟩
 intro p hp
 have g1:i8 H (n8 H p (.dT [])):=i8.new hp
 have hp1:n8 H p (.dT []) p=some (.dT []):=f9
 generalize n8 H p (.dT [])=H1 at g1 hp1
 refine ⟨(by show 1<=i0;decide),fun z0 hz0=>?_⟩
 have g2:i8 H1 (n8 H1 z0 (.tup [.int 0])):=i8.new hz0
 have hz2:n8 H1 z0 (.tup [.int 0]) z0=some (.tup [.int 0]):=f9
 try dsimp -proj only
 generalize n8 H1 z0 (.tup [.int 0])=H2 at g2 hz2
 refine ⟨_,rfl,a,_,rfl,.inr (.of ((g1.trans g2) _ _ ha)),z0,.int 0,n,rfl,(by rw[d8,hU.len]),hz2,n1,n4,fun b H3 g3 hb=>⟨(by show 2<=i0;decide),fun c hc=>?_⟩⟩
 have g4:i8 H3 (n8 H3 c (.tup [.int 1,.int 1])):=i8.new hc
 have hc4:n8 H3 c (.tup [.int 1,.int 1]) c=some (.tup [.int 1,.int 1]):=f9
 try dsimp -proj only
 generalize n8 H3 c (.tup [.int 1,.int 1])=H4 at g4 hc4
 have hp4:=g4 _ _ (g3 _ _ (g2 _ _ hp1))
 have hb4:H4 b=some (.tup ((Md.kI (u5 n 0)).map kV)):=by
  rw[lC,EI];exact g4 _ _ hb
 have gg:i8 H H4:=((g1.trans g2).trans g3).trans g4
 have ndt:∀(ps:List (List S6 × V)) xs,HO.dT ps≠.tup xs:=fun _ _ z=>by cases z
 refine ⟨hp4,b,Md.kI (u5 n 0),rfl,hb4,?_⟩
 have wo:=fun j hj=>wJ (fU n) hR n4 hU j hj
 have hnl:=hU.len
 refine ⟨_,rfl,(k:Int),rfl,by lia,by lia,?_⟩
 refine gx (lo:=0) (n:=k) (fun j σ H3=>i8 H H3/\j<=k/\∃p kvs o4 o5 o6 o7 o8 o9 oa ob,H p=none/\H3 p=some (.dT kvs)/\QE H3 (mQ ns rs (fU n) j) kvs/\σ=[some (.ref a),some v,some (.int k),some (.ref p),o4,o5,o6,o7,o8,o9,oa,ob])
  ⟨fun c o e=>by rw[A1 (v5 e hp)];exact gg _ _ e,v8 _,p,_,none,none,none,none,none,none,none,none,hp,f9,⟨by rw[hU.len],⟨c,rfl,cW hp4 (ndt _) Kp.at _ _ hc4⟩,trivial⟩,rfl⟩ (fun t σ H3 ht h=>?_) (fun σ H3 h=>?_)
 ·obtain ⟨g3,htk,d,kvs,o4,o5,o6,o7,o8,o9,oa,ob,hdn,hd,hQ,rfl⟩:=h
  obtain ⟨hK,_,hE,w4⟩:=wo t (by lia)
  have ht5:t<=5:=by lia
  have hT:(mQ ns rs (fU n) t).length<=1024:=j0 w4 (B1 (n:=4) (by decide) ht5)
  have hN:LL ^ t<=2 ^ 1600:=j0 (yL t) (B1 (by decide) (by lia))
  have hN0:=uM t
  have hEn:4 ^ (t*t)<=2 ^ 60:=by
   have:t*t<=5*5:=E4 ht5 ht5
   exact j0 (B1 (by decide) this) (by decide)
  have ecb:mQ ns rs (fU n) (t+1)=S4 ns rs (fU n) (mQ ns rs (fU n) t) []:=rfl
  rw[ecb]
  generalize mQ ns rs (fU n) t=T at *
  generalize LL ^ t=N at *
  generalize 4 ^ (t*t)=En at *
  have hv0:=uO hd (hv.kp (g3.kp st))
  have ha0:=g3 _ _ ha
  intro lt hlt
  have nlt:d≠lt:=v5 hd hlt
  refine ⟨_,rfl,d,kvs,rfl,(by rw[A1 nlt];exact hd),fun o=>?_⟩
  have k0:Kp d H3 (n8 (n8 H3 lt (.dT [])) d (.frz o (.dT kvs))):=fun b u nb e=>by rw[A1 nb,A1 (v5 e hlt)];exact e
  refine mM (o:=o) (fun i σ H2=>Kp d H3 H2/\H2 d=some (.frz o (.dT kvs))/\(∃ks,H2 lt=some (.dT ks)/\QE H2 (S4 ns rs (fU n) (T.take i) []) ks)/\i<=T.length/\∃o6 o7 o8 o9 oa ob,σ=[some (.ref a),some v,some (.int k),some (.ref d),some (.int ((0:Int)+(t:Int))),some (.ref lt),o6,o7,o8,o9,oa,ob])
   ⟨k0,f9,⟨[],by rw[A1 nlt.symm,f9],trivial⟩,v8 _,o6,o7,o8,o9,oa,ob,rfl⟩ (fun i σ H2 _ h=>h.2.1) (fun i kk x σ H2 p ka hx hp hka h=>?_) (fun σ H2 h=>?_)
  ·obtain ⟨k2,hd2,⟨ks2,hl2,hq2⟩,hi,o6,o7,o8,o9,oa,ob,rfl⟩:=h
   obtain ⟨um,hum,ek,xq,ex,hxq⟩:=hQ.get hx
   subst ek ex
   obtain ⟨c,mm⟩:=um
   simp only at hka hxq
   have hil:=(List.getElem?_eq_some_iff.mp hum).1
   have hkc:Cn ns rs n t c:=hK (c,mm) (m8 hum)
   have hmm:Vq N En mm:=hE (c,mm) (m8 hum)
   rw[lC] at hka
   refine ⟨p,_,rfl,.of f9,rfl,_,_,rfl,_,_,rfl,rfl,?_⟩
   have g3':i8 H2 (n8 H2 p (.tup [.ref ka,.ref xq])):=i8.new hp
   try dsimp -proj only[bC]
   generalize n8 H2 p (.tup [.ref ka,.ref xq])=H3' at g3'
   have k3:Kp d H3 H3':=k2.trans (g3'.kp d)
   have ha3:=cW hd (ndt _) k3 _ _ ha0
   refine ⟨_,rfl,_,rfl,_,rfl,a,ka,d,v,n,ns,c,rs,rfl,ha3,hnl,hv0.kp k3,hR,n4,hkc.len,.inl (g3' _ _ hka),(fun x hx=>by have:=hkc.nn x hx;lia),fun pn H4 g4 hpn=>?_⟩
   have k4:Kp d H3 H4:=k3.trans (g4.kp d)
   have hl4:=g4 _ _ (g3' _ _ hl2)
   have hd4:=g4 _ _ (g3' _ _ hd2)
   have ha4:=g4 _ _ ha3
   have hka4:H4 ka=some (.tup (c.map V.int)):=g4 _ _ (g3' _ _ hka)
   have hq4:QE H4 (S4 ns rs (fU n) (T.take i) []) ks2:=hq2.mono fun a xs e=>g4 _ _ (g3' _ _ e)
   have hx4:H4 xq=some (.tup ((fr mm).map V.int)):=cW hd (ndt _) k4 _ _ hxq
   obtain ⟨kk1,kk2,kk3,kk4⟩:=mG (g:=fU n) (D:=[]) (B:=0) hnl hR n4 (show t<=6 by lia) (T.take i) (fun q hq=>hK q (C9 hq)) (fun q hq=>hE q (C9 hq)) (fun p hp=>by simp at hp) (by unfold fN;simp) (fun p hp=>by simp at hp)
   have hti:(T.take i).length<=1024:=by rw[v7];lia
   have hle:(S4 ns rs (fU n) (T.take i) []).length<=4*1024:=j0 kk4 (by rw[O0,K5];exact E4 n4 hti)
   have hU2:=hkc.urn
   have hs0:=hU2.pos
   have hs1:=oz hU2 n4 (by lia)
   refine ⟨_,rfl,a,_,rfl,.inr (.of ha4),(n:Int),by rw[d8,hnl],by lia,by lia,?_⟩
   refine gx (lo:=0) (n:=n) (fun j σ H5=>Kp lt H4 H5/\(∃ks,H5 lt=some (.dT ks)/\QE H5 (P4 mm (aL ns rs c).sum (rl ns rs (fU n) c j) (S4 ns rs (fU n) (T.take i) [])) ks)/\j<=n/\∃o9 oa ob,σ=[some (.ref a),some v,some (.int k),some (.ref d),some (.int ((0:Int)+(t:Int))),some (.ref lt),some (.ref ka),some (.ref xq),some (.ref pn),o9,oa,ob])
    ⟨Kp.refl _ _,⟨ks2,hl4,hq4⟩,v8 _,o9,oa,ob,rfl⟩ (fun j σ H5 hj h=>?_) (fun σ H5 h=>?_)
   ·obtain ⟨k5,⟨ks5,hl5,hq5⟩,hjn,o9,oa,ob,rfl⟩:=h
    have e0:(0:Int)+(j:Int)=(j:Int):=by lia
    rw[e0]
    have t45:=cW hl4 (ndt _) k5
    have hx5:=t45 _ _ hx4
    have hka5:=t45 _ _ hka4
    have hpn5:=t45 _ _ hpn
    obtain ⟨pp1,pp2,pp3,pp4⟩:=qc (k:=t+1) hmm hs0 hs1 (rl ns rs (fU n) c j) (El hnl hR hkc (by lia)) kk1 kk2 kk3
    have hjt:=zW ns rs (fU n) c j
    have hlen:(P4 mm (aL ns rs c).sum (rl ns rs (fU n) c j) (S4 ns rs (fU n) (T.take i) [])).length<=10000:=by lia
    have hsu:=Ek ns rs (fU n) c j
    have hcj:j<c.length:=by rw[hkc.len];exact hj
    rw[if_pos (show c.getD j 0<(fU n).getD j 0 by
     have:=hkc.nn (c.getD j 0) (mK hcj)
     rw[zI hj];lia)] at hsu
    have cv:Vq LL 1 (cut ((aL ns rs c).getD j 0) (aL ns rs c).sum):=uH (hU2.getD j).1 (jn hU2 j) hs0 hs1
    have cb:Bd 12 (cut ((aL ns rs c).getD j 0) (aL ns rs c).sum):=Bd.cut hs0 (by have:=hU2.getD j;show _<=4096;lia) (by show _<=4096;lia)
    have pv':Vq (N*LL) En (mm*cut ((aL ns rs c).getD j 0) (aL ns rs c).sum):=(hmm.mul cv).mono (by lia)
    have hNL:N*LL<=2 ^ 1900:=by
     have:(2:Nat) ^ 1900=2 ^ 1600*2 ^ 300:=by rw[<- Q7]
     rw[this];exact E4 hN Ey
    have hNL0:0<N*LL:=iw hN0 yM
    have big:∀X:Nat,X<=2 ^ 60*2 ^ 13->N*LL*X<=2 ^ 1973:=fun X hX=>by
     have:(2:Nat) ^ 1973=2 ^ 1900*(2 ^ 60*2 ^ 13):=by rw[<- Q7,<- Q7]
     rw[this];exact E4 hNL hX
    have hNL2:N*LL<=2 ^ 1973:=j0 hNL (B1 (by decide) (by decide))
    have d1:Bd 1660 mm:=hmm.bd hN0 (by
     have:(2:Nat) ^ 1660=2 ^ 1600*2 ^ 60:=by rw[<- Q7]
     rw[this];exact E4 hN hEn) (j0 hN (B1 (by decide) (by decide)))
    have d2:Bd 1973 (mm*cut ((aL ns rs c).getD j 0) (aL ns rs c).sum):=pv'.bd hNL0 (big _ (j0 hEn (yQ _ (by decide)))) hNL2
    have vv:=pp3.val (k:=inc c j)
    have d3:Bd 1973 (fh (P4 mm (aL ns rs c).sum (rl ns rs (fU n) c j) (S4 ns rs (fU n) (T.take i) [])) (inc c j)):=vv.bd hNL0 (big _ (by
     have e1:0+En*(4*(T.take i).length)+En*(rl ns rs (fU n) c j).length<=En*(2 ^ 13):=by
      rw[K5,<- V0];exact S1 _ (by lia)
     exact j0 e1 (BZ _ hEn))) hNL2
    have l1:(c.map V.int).length=c.length:=by rw[d8]
    have hcl:=hkc.len
    refine ⟨_,rfl,_,rfl,(j:Int),rfl,ka,_,rfl,hka5,fun p1 Ha ga hp1=>?_⟩
    refine ⟨_,rfl,_,rfl,ka,_,_,_,rfl,rfl,.of (ga _ _ hka5),lK hcj,_,_,rfl,rfl,(by show 1<=i0;decide),fun p2 hp2=>?_⟩
    have gb:i8 Ha (n8 Ha p2 (.tup [.int (c.getD j 0+1)])):=i8.new hp2
    have hp2b:n8 Ha p2 (.tup [.int (c.getD j 0+1)]) p2=some (.tup [.int (c.getD j 0+1)]):=f9
    try dsimp only
    generalize n8 Ha p2 (.tup [.int (c.getD j 0+1)])=Hb at gb hp2b
    refine ⟨p1,p2,_,_,rfl,rfl,gb _ _ hp1,hp2b,?_,fun p3 Hc gc hp3=>?_⟩
    ·have:=dD (c.map V.int) none (some (j:Int))
     rw[l1] at this
     simp only[m9,O0];lia
    refine ⟨_,rfl,_,rfl,_,_,rfl,rfl,((j:Int)+1),rfl,ka,_,rfl,(gb.trans gc) _ _ (ga _ _ hka5),fun p4 Hd gd hp4'=>?_⟩
    refine ⟨p3,p4,_,_,rfl,rfl,gd _ _ hp3,hp4',?_,fun p6 H6 ge hp6=>?_⟩
    ·have h1:=dD (c.map V.int) none (some (j:Int))
     have h2:=dD (c.map V.int) (some ((j:Int)+1)) none
     rw[l1] at h1 h2
     rw[w9]
     simp only[m9,O0];lia
    have ethere:jO (c.map V.int) none (some (j:Int))++[V.int (c.getD j 0+1)]++jO (c.map V.int) (some ((j:Int)+1)) none=(inc c j).map V.int:=by
     rw[wC (by lia),show ((j:Int)+1)=((j+1:Nat):Int) by lia,wD (by lia),zF c j hcj,B0,B0,Ke,Kf];rfl
    rw[ethere] at hp6
    have g6:i8 H5 H6:=(((ga.trans gb).trans gc).trans gd).trans ge
    have hpn6:=g6 _ _ hpn5
    refine ⟨_,rfl,_,rfl,_,rfl,pn,_,_,_,rfl,rfl,.of hpn6,lK (by rw[hU2.len];exact hj),_,rfl,pn,_,rfl,.inr (.of hpn6),_,_,rfl,(hU2.getD j).1,hs0,DP (n:=12) hs0 (by show _<=4096;lia) (by decide),fun p7 H7 g7 hp7=>?_⟩
    refine ⟨xq,p7,mm,cut ((aL ns rs c).getD j 0) (aL ns rs c).sum,1660,12,rfl,g7 _ _ (g6 _ _ hx5),hp7,Rat.num_nonneg.mpr hmm.nn,Rat.num_nonneg.mpr cv.nn,d1,cb,by decide,fun p8 H8 g8 hp8=>?_⟩
    have g58:=(g6.trans g7).trans g8
    have hl8:=g58 _ _ hl5
    have hp6':H6 p6=some (.tup ((Md.kI (inc c j)).map kV)):=by rw[lC];exact hp6
    have hw8:=(g7.trans g8) _ _ hp6'
    refine ⟨_,rfl,lt,rfl,.inr ⟨_,.inl hl8⟩,_,rfl,(by show 2<=i0;decide),fun p9 hp9=>?_⟩
    have g9:i8 H8 (n8 H8 p9 (.tup [.int 0,.int 1])):=i8.new hp9
    have hz9:oi (n8 H8 p9 (.tup [.int 0,.int 1])) 0 (.ref p9):=⟨p9,rfl,f9⟩
    try dsimp -proj only
    generalize n8 H8 p9 (.tup [.int 0,.int 1])=H9 at g9 hz9
    have hl9:=g9 _ _ hl8
    have hw9:=g9 _ _ hw8
    have hq9:QE H9 (P4 mm (aL ns rs c).sum (rl ns rs (fU n) c j) (S4 ns rs (fU n) (T.take i) [])) ks5:=hq5.mono fun a xs e=>g9 _ _ (g58 _ _ e)
    obtain ⟨r9,er9,hr9⟩:=hq9.val (k:=inc c j) hz9
    refine ⟨_,rW.t hl9 hw9,?_⟩
    rw[er9]
    refine ⟨_,rfl,r9,p8,_,mm*cut ((aL ns rs c).getD j 0) (aL ns rs c).sum,1973,1973,rfl,hr9,g9 _ _ hp8,Rat.num_nonneg.mpr vv.nn,Rat.num_nonneg.mpr pv'.nn,d3,d2,by decide,fun pa Ha' gA hpa=>?_⟩
    have g5a:i8 H5 Ha':=g58.trans (g9.trans gA)
    have hla:=gA _ _ hl9
    have hwa:=gA _ _ hw9
    have hqa:QE Ha' (P4 mm (aL ns rs c).sum (rl ns rs (fU n) c j) (S4 ns rs (fU n) (T.take i) [])) ks5:=hq9.mono fun a xs e=>gA _ _ e
    refine ⟨_,rfl,_,rfl,lt,_,rfl,yO.t hla hwa (by rw[hqa.len];exact mj hlen),?_⟩
    have hqb:=hqa.put (k:=inc c j) (x:=mm*cut ((aL ns rs c).getD j 0) (aL ns rs c).sum) (v:=.ref pa) pp2 ⟨pa,rfl,hpa⟩
    have kb:Kp lt H4 (n8 Ha' lt (.dT (jL ks5 (Md.kI (inc c j)) (.ref pa)))):=(k5.trans (g5a.kp lt)).trans Kp.at
    refine ⟨kb,⟨_,f9,?_⟩,by lia,_,_,_,rfl⟩
    rw[hsu,kA]
    exact hqb.mono (cW hla (ndt _) Kp.at)
   ·obtain ⟨k5,⟨ks5,hl5,hq5⟩,_,o9,oa,ob,rfl⟩:=h
    have hlt2:H3 lt=none:=hlt
    refine ⟨fun c o nc e=>k5 _ _ (v5 e hlt2) (k4 _ _ nc e),k5 _ _ nlt hd4,⟨ks5,hl5,?_⟩,hil,_,_,_,_,_,_,rfl⟩
    rw[E3,hum]
    show QE H5 (S4 ns rs (fU n) (T.take i++[(c,mm)]) []) ks5
    rw[nF,hnl]
    exact hq5
  ·obtain ⟨k2,hd2,⟨ks2,hl2,hq2⟩,_,o6,o7,o8,o9,oa,ob,rfl⟩:=h
   rw[hQ.len,E2] at hq2
   have gF:i8 H H2:=fun c o e=>k2 _ _ (v5 e hdn) (g3 _ _ e)
   exact ⟨_,rfl,gF,by lia,lt,ks2,_,_,_,_,_,_,_,_,g3.free hlt,hl2,hq2,rfl⟩
 ·obtain ⟨g3,_,p,kvs,o4,o5,o6,o7,o8,o9,oa,ob,hpn,hp3,hq3,rfl⟩:=h
  exact ⟨_,rfl,q p kvs H3 g3 hpn hp3 hq3⟩
end
theorem Eo {H:Hp}:∀{kvs:List (List S6 × V)}{ys:List V},(∀(i:Nat) (y:V),ys[i]?=some y->∃k x r ka,kvs[i]?=some (k,x)/\y=.ref r/\H r=some (.tup [.ref ka,x])/\H ka=some (.tup (k.map kV)))->ys.length=kvs.length->rm H kvs ys
 | [],[],_,_=>trivial
 | (k,x)::kvs,y::ys,h,e=>by
  obtain ⟨k',x',r,ka,e1,e2,e3,e4⟩:=h 0 y rfl
  cases e1
  exact ⟨⟨r,ka,e2,e3,e4⟩,Eo (fun i y hy=>h (i+1) y (by simpa using hy)) (by simpa using e)⟩
 | [],_::_,_,e=>by simp at e
 | _::_,[],_,e=>by simp at e
theorem wu {d:Addr}{H H':Hp} (h:∀a xs,H a=some (.tup xs)->H' a=some (.tup xs)):∀{rs:List (List Int)}{xs:List V},U3 d H (rs.map DI) xs->U3 d H' (rs.map DI) xs
 | [],xs,hx=>hx
 | r::rs,xs,hx=>by
  obtain ⟨v0,xs0,ex,h0,h1⟩:=hx.uncons
  subst ex
  obtain ⟨a0,ea,na,ha⟩:=h0.di
  subst ea
  exact ⟨_,_,rfl,Dt.mkI na (h _ _ ha),wu h h1⟩
theorem Gd {d:Addr}{H H':Hp} (h:∀a xs,H a=some (.tup xs)->H' a=some (.tup xs)) {rs:List (List Int)}{v:V} (hv:Dt d H (DR rs) v):Dt d H' (DR rs) v:=by
 obtain ⟨a,xs,e,na,ha,hd⟩:=hv.untup
 subst e
 exact Dt.tup na (h _ _ ha) (wu h hd)
theorem vt {k:List S6}{x:V}:∀{kvs:List (List S6 × V)}{i:Nat},(kvs.map (·.1)).Nodup->kvs[i]?=some (k,x)->me kvs k=some x
 | [],i,_,h=>by simp at h
 | p::kvs,0,_,h=>by
  cases h
  exact iX rfl
 | p::kvs,i+1,hn,h=>by
  rw[A9,P7] at hn
  have h':kvs[i]?=some (k,x):=by simpa using h
  rw[iY fun e=>hn.1 (List.mem_map.mpr ⟨_,m8 h',e.symm⟩)]
  exact vt hn.2 h'
section
variable {P:j7}{w:u9}{K:m6}{mg:Str->Option b9}{base:Heap}{f:Addr}{fd:C5}{ec:Nat->Addr}{Bs:Addr}
noncomputable def xM:Sp:=fun vs H Q _=>∃(a st:Addr) (v:V) (n k:Nat) (ns:List Int) (rs:List (List Int)),vs=[.ref a,v,.int k]/\H a=some (.tup (ns.map V.int))/\Mt.jP n 20 ns/\Dt st H (DR rs) v/\Mt.kF n 5 rs/\1<=n/\n<=4/\k<=6 /\
 ∀D ys' T' H',i8 H H'->T'.Perm (nQ rs k [(ns,1)])->Eu T'->H' D=some (.lst ys')->BQ H' T' ys'->Q (.ref D) H'
noncomputable abbrev CO:Stmt:=gI 58
theorem pR:D8 ["_law_urn","_law_rule_here","_law_draws","_law_found","_law_counts","_law_odds","_law_there"] ["_law_urn","_law_rule_here","_law_draws"] (w6 CO):=⟨rfl,rfl,rfl,by decide +kernel,rfl,by decide +kernel,by decide +kernel⟩
theorem IP (F:cH K "_law_due" "_law_due" CO f fd) (B3:Mf mg) (c1:W5 P w K mg base 4 "_law_by_counts" ["_law_urn","_law_rule_here","_law_draws"] CD) (c2:W5 P w K mg base 4 "_law_behind" ["_law_urn","_law_rule_here","_law_counts"] tM) (c3:W5 P w K mg base 4 "_law_plus" ["_law_one","_law_other"] gS):O5 P w K mg base dQ 5 f fd ["_law_urn","_law_rule_here","_law_draws"] xM:=by
 refine F.ok pR (fun vs H Q E h=>?_) (fun cdv A outer s H vs Q E hr h=>?_)
 ·obtain ⟨a,st,v,n,k,ns,rs,rfl,_⟩:=h
  rfl
 obtain ⟨a,st,v,n,k,ns,rs,rfl,ha,hU,hv,hR,n1,n4,k6,q⟩:=h
 refine ⟨_,(@m7 _ _ _ _ _ (@F8 _ _ 3 _ _ _ _ pR.nd rfl (gD rfl) qi (by rfl) (by first|exact .inl rfl|exact .inr rfl))
  (@m7 _ _ _ _ _ (fq K3 rfl (qh (B4 c1 hr rfl (@b8 _ _ _ _ _ (pv 0) (@b8 _ _ _ _ _ (pv 1) (@b8 _ _ _ _ _ (pv 2) f6 (by rfl)) (by rfl)) (by rfl)))) (mB rfl (M6 (W3 (i:=4) pR.nd rfl (A5 rfl)) (M6 (W3 (i:=5) pR.nd rfl (A5 rfl)) cw)))
  (@t6 _ _ _ (T9 (@P0 _ _ _ _ _ _ _ _ zi (@M7 _ _ _ _ _ _ _ R5 (pv 5) i9 (fun _ _=>rfl)) i9 (N6 _)) (@m7 _ _ _ _ _ (@F8 _ _ 6 _ _ _ _ pR.nd rfl (A5 rfl) (B4 c2 hr rfl (@b8 _ _ _ _ _ (pv 0) (@b8 _ _ _ _ _ (pv 1) (@b8 _ _ _ _ _ (pv 4) f6 (by rfl)) (by rfl)) (by rfl))) (by rfl) (by first|exact .inl rfl|exact .inr rfl))
  (@t6 _ _ _ (tZ (lD hr) (pv 3) (pv 6) (B4 c3 hr rfl (@b8 _ _ _ _ _ (qj (lD hr) (pv 3) (pv 6) (@C7 _ _ _ _ _ (@b8 _ _ _ _ _ i9 (@b8 _ _ _ _ _ i9 f6 (by rfl)) (by rfl))) ⟨rfl,rfl,rfl,rfl⟩) (@b8 _ _ _ _ _ (pv 5) f6 (by rfl)) (by rfl))) rfl))) J7)))
  (@t6 _ _ _ (C6 (n9 (yF hr.units) rfl B3.sorted nR (@b8 _ _ _ _ _ (O7 (N:=["_law_one","_law_found"]) (ix:=[none,some 3]) (ifs:=[]) (tc:=X4) rfl (FA (pv 3))
   (fun s H ex=>cx (i:=0) (by decide +kernel) rfl (A5 rfl) (.inr rfl)) (fun s H ex=>O1) (fun s H ex=>(@C7 _ _ _ _ _ (@b8 _ _ _ _ _ (pv 0) (@b8 _ _ _ _ _ (FC (lD hr) (pv 1) (pv 0) (fun _ _=>rfl)) f6 (by rfl)) (by rfl)))) rfl (by decide +kernel) (by rfl) (by rfl) (fun _=>rfl)) f6 (by rfl))))))),?_⟩
 intro lt hlt
 have g0:i8 H (n8 H lt (.dT [])):=i8.new hlt
 have hlt0:n8 H lt (.dT []) lt=some (.dT []):=f9
 try dsimp -proj only
 generalize n8 H lt (.dT [])=H0 at g0 hlt0
 have hnl:=hU.len
 refine ⟨_,rfl,_,rfl,_,rfl,a,st,v,n,k,ns,rs,rfl,g0 _ _ ha,hU,hv.kp (g0.kp st),hR,n1,n4,k6,fun d kvs H1 g1 hdn hd hQ=>?_⟩
 obtain ⟨hK,w2,hE,w4⟩:=wJ (fU n) hR n4 hU k k6
 have hDP:∀{m N B L:Nat}{D:F0},yK n m N B L D (fun φ=>aG (mQ ns rs (fU n) k) (fun c=>φ (aL ns rs c))) (fun z=>∃p∈mQ ns rs (fU n) k,0<p.2/\aL ns rs p.1=z)->D.Perm (nQ rs k [(ns,1)]):=fun h=>Ee hR n4 hU k6 h
 have hT:(mQ ns rs (fU n) k).length<=4096:=j0 w4 (B1 (n:=4) (by decide) k6)
 have hN:LL ^ k<=2 ^ 1800:=j0 (yL k) (B1 (by decide) (by lia))
 have hN0:=uM k
 have hEn:4 ^ (k*k)<=2 ^ 72:=by
  have:k*k<=6*6:=E4 k6 k6
  exact j0 (B1 (by decide) this) (by decide)
 generalize mQ ns rs (fU n) k=T at *
 generalize LL ^ k=N at *
 generalize 4 ^ (k*k)=En at *
 have ndt:∀(ps:List (List S6 × V)) xs,HO.dT ps≠.tup xs:=fun _ _ z=>by cases z
 have hd0:H0 d=none:=hdn
 have nlt:d≠lt:=fun e=>by rw[e,hlt0] at hd0;cases hd0
 have G1:=g0.trans g1
 have hl1:=g1 _ _ hlt0
 have hv1:=uO hd (hv.kp (G1.kp st))
 have ha1:=G1 _ _ ha
 have hdH:H d=none:=g0.free hd0
 have big:∀X:Nat,X<=2 ^ 84->N*X<=2 ^ 1900:=fun X hX=>by
  have e:(2:Nat) ^ 1900=2 ^ 1816*2 ^ 84:=by rw[<- Q7]
  rw[e];exact E4 (j0 hN (B1 (by decide) (by decide))) hX
 have hN2:N<=2 ^ 1900:=j0 hN (B1 (by decide) (by decide))
 refine ⟨d,kvs,rfl,hd,fun o=>?_⟩
 have k0:Kp d H1 (n8 H1 d (.frz o (.dT kvs))):=Kp.at
 refine mM (o:=o) (fun i σ H2=>i8 H H2/\(∀a xs,H1 a=some (.tup xs)->H2 a=some (.tup xs))/\Dt d H2 (DR rs) v/\H2 d=some (.frz o (.dT kvs))/\(∃D ks,H2 lt=some (.dT ks)/\QE H2 D ks/\yK n 50 N (En*i) i D (fun φ=>aG (T.take i) (fun c=>φ (aL ns rs c))) (fun z=>∃p∈T.take i,0<p.2/\aL ns rs p.1=z))/\i<=T.length/\∃o4 o5 o6,σ=[some (.ref a),some v,some (.int k),some (.ref lt),o4,o5,o6])
  ⟨fun b u e=>k0 _ _ (v5 e hdH) (G1 _ _ e),cW hd (ndt _) k0,hv1.kp k0,f9,⟨[],[],k0 _ _ nlt.symm hl1,trivial,(yK.nil n 50 N).eqS (fun φ=>rfl) (fun z=>by simp)⟩,v8 _,none,none,none,rfl⟩ (fun i σ H2 _ h=>h.2.2.2.1) (fun i kk x σ H2 p ka hx hp hka h=>?_) (fun σ H2 h=>?_)
 ·obtain ⟨gH,t12,hv2,hd2,⟨D2,ks2,hl2,hq2,hM2⟩,hi,o4,o5,o6,rfl⟩:=h
  obtain ⟨um,hum,ek,xq,ex,hxq⟩:=hQ.get hx
  subst ek ex
  obtain ⟨c,mm⟩:=um
  simp only at hka hxq
  have hil:=(List.getElem?_eq_some_iff.mp hum).1
  have hkc:Cn ns rs n k c:=hK (c,mm) (m8 hum)
  have hmm:Vq N En mm:=hE (c,mm) (m8 hum)
  rw[lC] at hka
  refine ⟨p,_,rfl,.of f9,rfl,_,_,rfl,_,_,rfl,rfl,?_⟩
  have g3:i8 H2 (n8 H2 p (.tup [.ref ka,.ref xq])):=i8.new hp
  try dsimp -proj only[bC]
  generalize n8 H2 p (.tup [.ref ka,.ref xq])=H3 at g3
  have hx3:H3 xq=some (.tup [.int mm.num,.int mm.den]):=g3 _ _ (t12 _ _ hxq)
  have et:T.take (i+1)=T.take i++[(c,mm)]:=by rw[E3,hum];rfl
  refine ⟨_,rfl,xq,_,_,_,rfl,rfl,.of hx3,D7 (j:=0) rfl,_,_,rfl,rfl,_,rfl,?_⟩
  by_cases hz:0<mm.num
  ·rw[decide_eq_true hz]
   refine V4 ?_
   have hmp:0<mm:=by
    rcases KG 0 mm with z|z
    ·exact z
    ·have h0:mm=0:=by have:=hmm.nn;grind
     rw[h0] at hz;exact absurd hz (by decide)
   have hU2:=hkc.urn
   have hU5:Mt.jP n 50 (aL ns rs c):=⟨hU2.len,fun x hx=>by have:=hU2.nn x hx;lia,hU2.pos⟩
   refine ⟨_,rfl,_,rfl,_,rfl,a,ka,d,v,n,ns,c,rs,rfl,g3 _ _ (gH _ _ ha),hnl,hv2.kp (g3.kp d),hR,n4,hkc.len,.inl (g3 _ _ hka),(fun x hx=>by have:=hkc.nn x hx;lia),fun pn H4 g4 hpn=>?_⟩
   have g24:=g3.trans g4
   have hl4:=g24 _ _ hl2
   have hw4:H4 pn=some (.tup ((Md.kI (aL ns rs c)).map kV)):=by rw[lC];exact hpn
   have vv:=hM2.all.val (k:=aL ns rs c)
   have hEi:En*i<=2 ^ 84:=by
    have e:(2:Nat) ^ 84=2 ^ 72*4096:=by decide
    rw[e];exact E4 hEn (by lia)
   have d1:Bd 1900 mm:=hmm.bd hN0 (big _ (j0 hEn (by decide))) hN2
   have d2:Bd 1900 (fh D2 (aL ns rs c)):=vv.bd hN0 (big _ hEi) hN2
   refine ⟨_,rfl,lt,rfl,.inr ⟨_,.inl hl4⟩,_,rfl,(by show 2<=i0;decide),fun p8 hp8=>?_⟩
   have g8:i8 H4 (n8 H4 p8 (.tup [.int 0,.int 1])):=i8.new hp8
   have hz8:oi (n8 H4 p8 (.tup [.int 0,.int 1])) 0 (.ref p8):=⟨p8,rfl,f9⟩
   try dsimp -proj only
   generalize n8 H4 p8 (.tup [.int 0,.int 1])=H8 at g8 hz8
   have g28:=g24.trans g8
   have hl8:=g8 _ _ hl4
   have hw8:=g8 _ _ hw4
   have hq8:QE H8 D2 ks2:=hq2.mono fun a xs e=>g28 _ _ e
   obtain ⟨r8,er8,hr8⟩:=hq8.val (k:=aL ns rs c) hz8
   refine ⟨_,rW.t hl8 hw8,?_⟩
   rw[er8]
   refine ⟨_,rfl,r8,xq,_,mm,1900,1900,rfl,hr8,(g4.trans g8) _ _ hx3,Rat.num_nonneg.mpr vv.nn,Rat.num_nonneg.mpr hmm.nn,d2,d1,by decide,fun p9 H9 g9 hp9=>?_⟩
   have g29:=g28.trans g9
   have hl9:=g29 _ _ hl2
   have hw9:=g9 _ _ hw8
   have hq9:QE H9 D2 ks2:=hq2.mono fun a xs e=>g29 _ _ e
   have hM6:=hM2.add hU5 hmm
   refine ⟨_,rfl,_,rfl,lt,_,rfl,yO.t hl9 hw9 (by rw[hq9.len];exact mj (j0 hM2.len (by lia))),?_⟩
   have hq10:=hq9.put (k:=aL ns rs c) (x:=mm) (v:=.ref p9) hM2.nd ⟨p9,rfl,hp9⟩
   have k10:Kp lt H2 (n8 H9 lt (.dT (jL ks2 (Md.kI (aL ns rs c)) (.ref p9)))):=(g29.kp lt).trans Kp.at
   have t10:=cW hl2 (ndt _) k10
   refine ⟨fun b u e=>k10 _ _ (v5 e hlt) (gH _ _ e),fun b xs e=>t10 _ _ (t12 _ _ e),?_,k10 _ _ nlt hd2,⟨_,_,f9,hq10.mono (cW hl9 (ndt _) Kp.at),?_⟩,hil,_,_,_,rfl⟩
   ·exact Gd t10 hv2
   rw[et]
   refine (hM6.eqS (fun φ=>?_) (fun z=>?_)).mono (by rw[V0];lia) (by lia)
   ·rw[jl,S5]
    show _=_+(mm*φ (aL ns rs c)+0)
    grind
   ·constructor
    ·rintro (h|⟨p,hp,h⟩)
     ·exact ⟨_,v9 _ (List.mem_singleton.mpr rfl),hmp,h.symm⟩
     ·exact ⟨p,G7 _ hp,h⟩
    ·rintro ⟨p,hp,h1,h2⟩
     rcases List.mem_append.mp hp with hp|hp
     ·exact .inr ⟨p,hp,h1,h2⟩
     ·rw[List.mem_singleton.mp hp] at h2
      exact .inl h2.symm
  ·rw[decide_eq_false hz]
   have hm0:mm=0:=by
    have h1:=Rat.num_nonneg.mpr hmm.nn
    have:mm.num=0:=by lia
    exact Rat.num_eq_zero.mp this
   refine W0 ⟨fun b u e=>g3 _ _ (gH _ _ e),fun b xs e=>g3 _ _ (t12 _ _ e),hv2.kp (g3.kp d),g3 _ _ hd2,⟨D2,ks2,g3 _ _ hl2,hq2.mono fun a xs e=>g3 _ _ e,?_⟩,hil,_,_,_,rfl⟩
   rw[et]
   refine (hM2.eqS (fun φ=>?_) (fun z=>?_)).mono (S1 _ (by lia)) (by lia)
   ·rw[jl,S5,hm0]
    show _=_+(0*φ (aL ns rs c)+0)
    grind
   ·constructor
    ·rintro ⟨p,hp,h⟩
     exact ⟨p,G7 _ hp,h⟩
    ·rintro ⟨p,hp,h1,h2⟩
     rcases List.mem_append.mp hp with hp|hp
     ·exact ⟨p,hp,h1,h2⟩
     ·rw[List.mem_singleton.mp hp,hm0] at h1
      exact absurd h1 (by show ¬ (0:Rat)<0;decide)
 ·obtain ⟨gH,t12,hv2,hd2,⟨D,ks,hl2,hq2,hM2⟩,_,o4,o5,o6,rfl⟩:=h
  rw[hQ.len,E2] at hM2
  have hDp:D.Perm (nQ rs k [(ns,1)]):=hDP hM2
  have hDl:D.length<128:=by rw[hDp.length_eq];exact eW hR n1 n4 hU k6
  have hnd:(ks.map fun t=>kz t.1)=D.map (·.1):=vN hq2
  have hndk:(ks.map fun t=>kz t.1).Nodup:=by rw[hnd];exact hM2.nd
  have hnk:(ks.map (·.1)).Nodup:=by
   have e:(ks.map fun t=>kz t.1)=(ks.map (·.1)).map kz:=by rw[R8];rfl
   rw[e] at hndk
   exact List.Pairwise.of_map kz (fun a b h e=>h (by rw[e])) hndk
  have hks:ks.length<128:=by rw[hq2.len];exact hDl
  refine ⟨_,rfl,lt,ks,rfl,hl2,fun o'=>?_⟩
  have hkf:Kp lt H2 (n8 H2 lt (.frz o' (.dT ks))):=Kp.at
  have hlf:n8 H2 lt (.frz o' (.dT ks)) lt=some (.frz o' (.dT ks)):=f9
  have hqf:QE (n8 H2 lt (.frz o' (.dT ks))) D ks:=hq2.mono (cW hl2 (ndt _) hkf)
  generalize n8 H2 lt (.frz o' (.dT ks))=Hf at hkf hlf hqf
  refine Er (K:=K) (by show ks.length<=_;exact j0 (aC hks) (by decide)) (fun i zs H'=>i8 Hf H'/\zs.length=i/\∀(j:Nat) (y:V),zs[j]?=some y->∃k x r ka,ks[j]?=some (k,x)/\y=.ref r/\H' r=some (.tup [.ref ka,x])/\H' ka=some (.tup (k.map kV)))
   ⟨i8.refl _,rfl,fun j y hy=>by simp at hy⟩ (fun i zs H' h=>Ap h.2.1) (fun i zs H' _ h=>h.1 _ _ hlf) rfl (fun i zs H' kk x ka hx hka h=>?_) (fun zs H' h=>?_)
  ·obtain ⟨gi,li,ei⟩:=h
   have hlf':=gi _ _ hlf
   refine ⟨_,rfl,_,rfl,_,rfl,lt,x,rfl,.inr ⟨ks,kk,ka,.inr ⟨o',hlf'⟩,rfl,hka,(vt hnk hx).symm⟩,(by show 2<=i0;decide),fun p hp=>?_⟩
   have gp:i8 H' (n8 H' p (.tup [.ref ka,x])):=i8.new hp
   refine ⟨gi.trans gp,by rw[w9,li];rfl,fun j y hy=>?_⟩
   rw[BG] at hy
   by_cases hj:j<zs.length
   ·rw[if_pos hj] at hy
    obtain ⟨k',x',r',ka',e1,e2,e3,e4⟩:=ei j y hy
    exact ⟨k',x',r',ka',e1,e2,gp _ _ e3,gp _ _ e4⟩
   ·rw[if_neg hj] at hy
    have hj0:j - zs.length=0:=by
     have:=(List.getElem?_eq_some_iff.mp hy).1
     simp at this;lia
    rw[hj0] at hy
    cases hy
    have:j=i:=by lia
    subst this
    exact ⟨kk,x,p,ka,hx,rfl,f9,gp _ _ hka⟩
  ·obtain ⟨gi,li,ei⟩:=h
   intro pl hpl
   have gl:i8 H' (n8 H' pl (.lst zs)):=i8.new hpl
   refine ⟨pl,zs,ks,rfl,.of f9,(Eo ei li).same gl,hks,fun kx hkx=>(hqf.keys kx hkx).1,hndk,fun Dl ys' kvs' H3 hp3 ho3 g3 hD3 hP3=>?_⟩
   obtain ⟨T',hT',hQ'⟩:=(hqf.mono fun a xs e=>g3 _ _ (gl _ _ (gi _ _ e))).perm hp3
   refine q Dl ys' T' H3 ?_ (hT'.trans hDp) ?_ hD3 (BQ.of hQ' hP3)
   ·exact fun b o e=>g3 _ _ (gl _ _ (gi _ _ (hkf _ _ (v5 e hlt) (gH _ _ e))))
   ·unfold Eu
    rw[<- vN hQ']
    exact ho3
end
end G
namespace L2
open PySem PySem.Spec PyProof.Rows
section
variable {X:Cx}{K:m6}
end
end L2
namespace L2
open PySem PySem.Spec PyProof.Rows PySem.SeqAt
section
variable {X:Cx}{K:m6}
end
end L2
namespace L2
open PySem PySem.Spec PyProof.Rows
section
variable {X:Cx}
noncomputable def GV (K:m6) (a b:Addr):It :=
 ⟨fun i H=>∃xs ys x y,dP K H a xs/\dP K H b ys/\xs[i]?=some x/\ys[i]?=some y,fun i H v H'=>∃p x y,H p=none/\v=.ref p/\H'=n8 H p (.tup [x,y])/\(∀xs,dP K H a xs->xs[i]?=some x)/\∀ys,dP K H b ys->ys[i]?=some y,
  fun i H=>∃xs,dP K H a xs/\xs.length<=i⟩
noncomputable def Jd (K:m6) (ta:TA):TI:=fun σ H R=>ta σ H fun vs H1=>∃a b xs ys,vs=[.ref a,.ref b]/\dP K H1 a xs/\dP K H1 b ys/\R (GV K a b) H1
theorem Dd {e1 e2:Expr}{es:List Expr}{kk:Nat}{pt p pos:Pos}{ta:TA} (hg:Gl X "zip") (hm:X.mg "zip"=none) (ha:PA X [e1,e2] ta) (hs:A4 [e1,e2] X.env=[(false,eval e1 X.env),(false,eval e2 X.env)]:=by rfl) (hs2:A4 [e2] X.env=[(false,eval e2 X.env)]:=by rfl):
  PI X (.Tuple es kk pt) (.Call (.Name "zip" p) [e1,e2] [] pos) (Jd X.K ta):=
 uf hg hm ha (fun I ⟨_,_,_,_,e,hx,hy,h⟩=>⟨_,_,e,kT (p:=true) (q:=true) I hx hy (fun D=>jw D) h⟩) hs hs2
end
section
variable {X:Cx}{K:m6}
theorem Bo {a b:Addr}{xs ys:List V}{σ0:St}{te:TE}{H:Hp}{F:List V->Hp->Prop} (hn:xs.length<=i0) (hxy:xs.length=ys.length) (Pv:Nat->List V->Hp->Prop) (h0:Pv 0 [] H) (hl:∀i zs H,Pv i zs H->zs.length=i)
  (hq:∀i zs H,i<=xs.length->Pv i zs H->dP K H a xs/\dP K H b ys) (hσ:σ0[0]?=some none/\σ0[1]?=some none)
  (hs:∀i zs H x y p,xs[i]?=some x->ys[i]?=some y->H p=none->Pv i zs H->te ((σ0.set 0 (some x)).set 1 (some y)) (n8 H p (.tup [x,y])) fun z H'=>Pv (i+1) (zs++[z]) H') (hd:∀zs H,Pv xs.length zs H->F zs H):
  EA (GV K a b) σ0 (Ba K 2 (lF (bC 0) (lF (bC 1) DY))) X4 te H F:=by
 refine ⟨fun i m zs H=>m=xs.length - i/\i<=xs.length/\Pv i zs H,⟨xs.length,by simp,v8 _,h0⟩,?_⟩
 rintro i m zs H2 ⟨rfl,hi,p⟩
 obtain ⟨q1,q2⟩:=hq i zs H2 hi p
 refine ⟨by rw[hl i zs H2 p];lia,?_⟩
 by_cases hlt:i<xs.length
 ·refine .inr ⟨⟨xs,ys,xs[i],ys[i]'(by lia),q1,q2,by simp[hlt],by rw[f7 (by lia)]⟩,fun y H'=>Pv (i+1) (zs++[y]) H',fun _=>False,fun y H' q=>⟨xs.length - (i+1),by lia,rfl,hlt,q⟩,fun _ q=>q.elim,fun v H3 yld=>?_⟩
  obtain ⟨r,x,y,hr,rfl,rfl,hx,hy⟩:=yld
  exact ⟨r,[x,y],rfl,.of f9,rfl,x,[y],rfl,y,[],rfl,rfl,wk2 hσ _ _,hs i zs _ x y r (hx xs q1) (hy ys q2) hr p⟩
 ·have e:i=xs.length:=by lia
  subst e
  exact .inl ⟨⟨xs,q1,i6 _⟩,hd zs H2 p⟩
end
section
variable {X:Cx}
noncomputable def IT:A7->Bool
 | .dict _=>false
 | _=>true
theorem Bm:bE X (.builtin "isinstance") (fun xs H Q=>∃x st d p,xs=[x,.ref p]/\Dt st H d x/\IT d=true/\H p=some (.tup [.ty "tuple",.ty "list"])/\Q (.bl (jm d)) H):=by
 intro pins s σ H xs us Q I r h
 obtain ⟨x,st,d,p,rfl,hd,ok,hp,q⟩:=h
 cases r with
 | cons r1 rr =>
  cases rr with
  | cons r2 rr =>
   cases rr
   cases r2
   have e:=we X.K d
   obtain ⟨_,its,rv,ob,ho,hc,n,hdt⟩:=(show M9 X.prog X.w H s.heap p (.tup [.ty "tuple",.ty "list"]) from I.hok p _ hp)
   cases rv with
   | cons q1 rv =>
    cases rv with
    | cons q2 rv =>
     cases rv
     cases q1
     cases q2
     obtain ⟨oc,od,dt,sl⟩:=ob
     simp only at hc hdt
     subst hc hdt
     have fin:∀tk,EP X pins σ Q (.bool (jm d)) { s with toks:=tk }:=fun tk=>⟨.bl (jm d),H,I.tok tk,rfl,q⟩
     cases d with
     | none =>
      unfold Dt at hd
      subst hd
      cases r1
      exact eZ Fb I.kIn R6 ho e (fun z=>nomatch z) fin
     | bool i =>
      unfold Dt at hd
      subst hd
      cases r1
      exact eZ W.kitx_bool I.kIn R6 ho e (fun z=>nomatch z) fin
     | int i =>
      unfold Dt at hd
      subst hd
      obtain ⟨t,rfl⟩:=r1
      exact eZ Hq I.kIn R6 ho e (fun z=>nomatch z) fin
     | str i =>
      unfold Dt at hd
      subst hd
      obtain ⟨t,rfl⟩:=r1
      exact eZ W.kitx_str I.kIn R6 ho e (fun z=>nomatch z) fin
     | tuple ds =>
      unfold Dt at hd
      obtain ⟨a,xs,e1,_,ha,_⟩:=hd
      subst e1
      cases r1
      obtain ⟨_,_,_,o,h1,h2,_⟩:=(show M9 X.prog X.w H s.heap a (.tup xs) from I.hok a _ ha)
      exact eZ BO I.kIn ⟨o,h1,h2⟩ ho e (fun z=>nomatch z) fin
     | list ds =>
      unfold Dt at hd
      obtain ⟨a,xs,e1,_,ha,_⟩:=hd
      subst e1
      cases r1
      obtain ⟨_,_,_,_,h1⟩:=(show M9 X.prog X.w H s.heap a (.lst xs) from I.hok a _ ha)
      exact eZ Fc I.kIn ⟨_,h1,rfl⟩ ho e (fun z=>nomatch z) fin
     | dict _=>cases (show false=true from ok)
end
end L2
namespace G
open PySem PySem.Spec PyProof.Rows L2 Mt Md Mq
noncomputable def pD (p:List Int × Rat):A7:=.tuple [DI p.1,DI (fr p.2)]
theorem qN {H:Hp}:∀{T:F0}{ys:List V},BQ H T ys->∃N,∀st,N<st->U3 st H (T.map pD) ys
 | [],[],_=>⟨0,fun _ _=>rfl⟩
 | p::T,y::ys,h=>by
  obtain ⟨N,hN⟩:=qN h.2
  obtain ⟨r,ka,q,e,h1,h2,h3⟩:=h.1
  refine ⟨N+r+ka+q,fun st hst=>⟨y,ys,rfl,⟨r,_,e,?_,h1,⟨_,_,rfl,Dt.mkI ?_ h2,⟨_,_,rfl,Dt.mkI ?_ h3,rfl⟩⟩⟩,hN st ?_⟩⟩
  ·exact n0 (B8 (j0 (V7 r N) (j0 (E6 _ _) (E6 _ _))) hst)
  ·exact n0 (B8 (by rw[Nat.add_right_comm];exact V7 _ _) hst)
  ·exact n0 (B8 (V7 _ _) hst)
  ·exact B8 (j0 (E6 _ _) (j0 (E6 _ _) (E6 _ _))) hst
 | [],_::_,h=>h.elim
 | _::_,[],h=>h.elim
section
variable {P:j7}{w:u9}{K:m6}{mg:Str->Option b9}{base:Heap}{f:Addr}{fd:C5}{ec:Nat->Addr}{Bs:Addr}
noncomputable def pG:Sp:=fun vs H Q _=>∃(p r:Addr) (ns:List Int),vs=[.ref p,.ref r]/\H p=some (.tup (ns.map V.int))/\H r=some (.tup (ns.map V.int))/\ns.length<=1000/\∀H',i8 H H'->Q (.bl true) H'
theorem Dy (F:cH K "_law_same" "_law_same" gX f fd) (B:Bt mg) (c1:W5 P w K mg base 1 "_law_same" ["_law_found","_law_due_here"] pH):O5 P w K mg base dQ 2 f fd ["_law_found","_law_due_here"] pG:=by
 refine F.ok oC (fun vs H Q E h=>?_) (fun cdv A outer s H vs Q E hr h=>?_)
 ·obtain ⟨p,r,ns,rfl,_⟩:=h
  rfl
 obtain ⟨p,r,ns,rfl,hp,hr2,hl,q⟩:=h
 refine ⟨_,m7 (T9 (Z0 (n9 mR rfl B.isinstance r0 (b8 (pv 1) (b8 (C7 (b8 (O8 rfl B.tuple E7) (b8 (O8 rfl B.list Z3) f6))) f6))))
   (m7 (T9 (PW.pt (lg (P0 gq (n9 (M8 cB) rfl B.isinstance r0 (b8 (pv 0) (b8 (O8 rfl B.tuple E7) f6))) (n9 (M8 cB) rfl B.isinstance r0 (b8 (pv 1) (b8 (O8 rfl B.tuple E7) f6))) (N6 _))
    (hJ (P0 gq (n9 (M8 gv) rfl B.isinstance r0 (b8 (pv 0) (b8 (O8 rfl B.list Z3) f6))) (n9 (M8 gv) rfl B.isinstance r0 (b8 (pv 1) (b8 (O8 rfl B.list Z3) f6))) (N6 _))))) (t6 (C6 bR)) J7)
   (t6 (C6 (cS (eF iz (n9 D6 rfl B.len C4 (b8 (pv 0) f6)) (n9 D6 rfl B.len C4 (b8 (pv 1) f6)) (N6 _))
    (cR (n9 (Z8 rfl) rfl B.all nX (b8 (O7 (N:=["_law_one","_law_other"]) (ix:=[none,none]) (ifs:=[]) (tc:=X4) rfl (xZ rfl B.zip (b8 (pv 0) (b8 (pv 1) f6)))
     (fun s H ex=>AE (K:=K) (n:=2) rfl rfl (M6 (cx (i:=0) (by decide +kernel) rfl (A5 rfl) (.inr rfl)) (M6 (cx (i:=1) (by decide +kernel) rfl (A5 rfl) (.inr rfl)) cw))) (fun s H ex=>O1)
     (fun s H ex=>B4 c1 hr rfl (b8 (pv 0) (b8 (pv 1) f6))) rfl (by decide +kernel) (by rfl) (by rfl) (fun _=>rfl)) f6))))))) J7) jy,?_⟩
 have np:p≠p+r+1:=n0 (bh (E6 p r))
 have nr:r≠p+r+1:=n0 (bh (V7 r p))
 have dp:∀H',i8 H H'->Dt (p+r+1) H' (DI ns) (.ref p):=fun H' g=>Dt.mkI np (g _ _ hp)
 have dr:∀H',i8 H H'->Dt (p+r+1) H' (DI ns) (.ref r):=fun H' g=>Dt.mkI nr (g _ _ hr2)
 have hxy:(ns.map V.int).length=(ns.map V.int).length:=rfl
 have hlx:(ns.map V.int).length<=1000:=by rw[d8];exact hl
 refine ⟨_,rfl,(by show 2<=i0;decide),fun t ht=>?_⟩
 have g1:i8 H (n8 H t (.tup [.ty "tuple",.ty "list"])):=i8.new ht
 refine ⟨.ref r,_,_,t,rfl,dr _ g1,rfl,f9,_,rfl,V4 ?_⟩
 generalize n8 H t (.tup [.ty "tuple",.ty "list"])=H1 at g1
 refine ⟨_,rfl,.ref p,_,_,rfl,dp _ g1,_,rfl,.ref r,_,_,rfl,dr _ g1,rfl,_,rfl,?_⟩
 rw[decide_eq_true rfl]
 refine W0 ⟨_,rfl,.ref p,_,_,rfl,dp _ g1,_,rfl,.ref r,_,_,rfl,dr _ g1,rfl,_,rfl,?_⟩
 rw[decide_eq_true rfl]
 refine W0 ⟨_,rfl,p,_,rfl,.inr (.of (g1 _ _ hp)),_,rfl,r,_,rfl,.inr (.of (g1 _ _ hr2)),rfl,_,rfl,?_⟩
 rw[decide_eq_true (by rw[hxy])]
 refine V4 ⟨_,rfl,_,rfl,p,r,_,_,rfl,.of (g1 _ _ hp),.of (g1 _ _ hr2),?_⟩
 refine oO (K:=K) (a:=p) (b:=r) (xs:=ns.map V.int) (ys:=ns.map V.int) (sz hlx) hxy
  (fun i zs H2=>i8 H H2/\zs=u5 i (.bl true)) ⟨g1,rfl⟩ (fun i zs H2 h=>by rw[h.2,P1]) (fun i zs H2 _ h=>⟨.of (h.1 _ _ hp),.of (h.1 _ _ hr2)⟩) ⟨rfl,rfl⟩ (fun i zs H2 x y p' hx hy hp' h=>?_) (fun zs H2 h=>?_)
 ·obtain ⟨hS,rfl⟩:=h
  have hS':=hS.trans (i8.new (o:=.tup [x,y]) hp')
  rw[hx] at hy
  cases hy
  rw[w5] at hx
  obtain ⟨z,_,ez⟩:=Option.map_eq_some_iff.mp hx
  subst ez
  refine ⟨_,rfl,_,rfl,_,rfl,.inr ⟨z,rfl⟩,fun H3 g3=>⟨hS'.trans g3,?_⟩⟩
  rw[kK]
 ·obtain ⟨hS,rfl⟩:=h
  intro pz hpz
  refine ⟨pz,_,rfl,.inl (.of f9),?_,?_⟩
  ·rw[aw];simp[qp]
  ·rw[show ((u5 (ns.map V.int).length (V.bl true)).all iZ)=true by rw[aw];simp[iZ]]
   exact q _ (hS.trans (i8.new hpz))
noncomputable def pF:Sp:=fun vs H Q _=>∃(p r a b a2 b2:Addr) (w:List Int × Rat),vs=[.ref p,.ref r]/\H p=some (.tup [.ref a,.ref b])/\H r=some (.tup [.ref a2,.ref b2])/\H a=some (.tup (w.1.map V.int))/\H b=some (.tup ((fr w.2).map V.int))/\H a2=some (.tup (w.1.map V.int))/\H b2=some (.tup ((fr w.2).map V.int))/\w.1.length<=1000/\∀H',i8 H H'->Q (.bl true) H'
theorem Dx (F:cH K "_law_same" "_law_same" gX f fd) (B:Bt mg) (c1:W5 P w K mg base 2 "_law_same" ["_law_found","_law_due_here"] pG):O5 P w K mg base dQ 3 f fd ["_law_found","_law_due_here"] pF:=by
 refine F.ok oC (fun vs H Q E h=>?_) (fun cdv A outer s H vs Q E hr h=>?_)
 ·obtain ⟨p,r,a,b,a2,b2,w,rfl,_⟩:=h
  rfl
 obtain ⟨p,r,a,b,a2,b2,w,rfl,hp,hr2,ha,hb,ha2,hb2,hl,q⟩:=h
 refine ⟨_,m7 (T9 (Z0 (n9 mR rfl B.isinstance r0 (b8 (pv 1) (b8 (C7 (b8 (O8 rfl B.tuple E7) (b8 (O8 rfl B.list Z3) f6))) f6))))
   (m7 (T9 (PW.pt (lg (P0 gq (n9 (M8 cB) rfl B.isinstance r0 (b8 (pv 0) (b8 (O8 rfl B.tuple E7) f6))) (n9 (M8 cB) rfl B.isinstance r0 (b8 (pv 1) (b8 (O8 rfl B.tuple E7) f6))) (N6 _))
    (hJ (P0 gq (n9 (M8 gv) rfl B.isinstance r0 (b8 (pv 0) (b8 (O8 rfl B.list Z3) f6))) (n9 (M8 gv) rfl B.isinstance r0 (b8 (pv 1) (b8 (O8 rfl B.list Z3) f6))) (N6 _))))) (t6 (C6 bR)) J7)
   (t6 (C6 (cS (eF iz (n9 D6 rfl B.len C4 (b8 (pv 0) f6)) (n9 D6 rfl B.len C4 (b8 (pv 1) f6)) (N6 _))
    (cR (n9 (Z8 rfl) rfl B.all nX (b8 (O7 (N:=["_law_one","_law_other"]) (ix:=[none,none]) (ifs:=[]) (tc:=X4) rfl (xZ rfl B.zip (b8 (pv 0) (b8 (pv 1) f6)))
     (fun s H ex=>AE (K:=K) (n:=2) rfl rfl (M6 (cx (i:=0) (by decide +kernel) rfl (A5 rfl) (.inr rfl)) (M6 (cx (i:=1) (by decide +kernel) rfl (A5 rfl) (.inr rfl)) cw))) (fun s H ex=>O1)
     (fun s H ex=>B4 c1 hr rfl (b8 (pv 0) (b8 (pv 1) f6))) rfl (by decide +kernel) (by rfl) (by rfl) (fun _=>rfl)) f6))))))) J7) jy,?_⟩
 have hq:BQ H [w] [.ref p]:=⟨⟨p,a,b,rfl,hp,ha,hb⟩,trivial⟩
 have hq2:BQ H [w] [.ref r]:=⟨⟨r,a2,b2,rfl,hr2,ha2,hb2⟩,trivial⟩
 have dp:∀H',i8 H H'->∃N,∀st,N<st->Dt st H' (pD w) (.ref p):=fun H' g=>by
  obtain ⟨N,hN⟩:=qN (hq.same g)
  refine ⟨N,fun st hst=>?_⟩
  obtain ⟨v0,xs0,ex,h0,_⟩:=hN st hst
  cases ex
  exact h0
 have dr:∀H',i8 H H'->∃N,∀st,N<st->Dt st H' (pD w) (.ref r):=fun H' g=>by
  obtain ⟨N,hN⟩:=qN (hq2.same g)
  refine ⟨N,fun st hst=>?_⟩
  obtain ⟨v0,xs0,ex,h0,_⟩:=hN st hst
  cases ex
  exact h0
 have dp:=fun H' g=>(dp H' g).choose_spec _ (U1 _)
 have dr:=fun H' g=>(dr H' g).choose_spec _ (U1 _)
 have hxy:([.ref a,.ref b]:List V).length=([.ref a2,.ref b2]:List V).length:=rfl
 have hlx:([.ref a,.ref b]:List V).length<=1000:=by show 2<=1000;decide
 refine ⟨_,rfl,(by show 2<=i0;decide),fun t ht=>?_⟩
 have g1:i8 H (n8 H t (.tup [.ty "tuple",.ty "list"])):=i8.new ht
 refine ⟨.ref r,_,_,t,rfl,dr _ g1,rfl,f9,_,rfl,V4 ?_⟩
 generalize n8 H t (.tup [.ty "tuple",.ty "list"])=H1 at g1
 refine ⟨_,rfl,.ref p,_,_,rfl,dp _ g1,_,rfl,.ref r,_,_,rfl,dr _ g1,rfl,_,rfl,?_⟩
 rw[decide_eq_true rfl]
 refine W0 ⟨_,rfl,.ref p,_,_,rfl,dp _ g1,_,rfl,.ref r,_,_,rfl,dr _ g1,rfl,_,rfl,?_⟩
 rw[decide_eq_true rfl]
 refine W0 ⟨_,rfl,p,_,rfl,.inr (.of (g1 _ _ hp)),_,rfl,r,_,rfl,.inr (.of (g1 _ _ hr2)),rfl,_,rfl,?_⟩
 rw[decide_eq_true (by rw[hxy])]
 refine V4 ⟨_,rfl,_,rfl,p,r,_,_,rfl,.of (g1 _ _ hp),.of (g1 _ _ hr2),?_⟩
 refine oO (K:=K) (a:=p) (b:=r) (xs:=[V.ref a,V.ref b]) (ys:=[V.ref a2,V.ref b2]) (sz hlx) hxy
  (fun i zs H2=>i8 H H2/\zs=u5 i (.bl true)) ⟨g1,rfl⟩ (fun i zs H2 h=>by rw[h.2,P1]) (fun i zs H2 _ h=>⟨.of (h.1 _ _ hp),.of (h.1 _ _ hr2)⟩) ⟨rfl,rfl⟩ (fun i zs H2 x y p' hx hy hp' h=>?_) (fun zs H2 h=>?_)
 ·obtain ⟨hS,rfl⟩:=h
  have hS':=hS.trans (i8.new (o:=.tup [x,y]) hp')
  have hz:∃(c c2:Addr) (z:List Int),x=.ref c/\y=.ref c2/\H c=some (.tup (z.map V.int))/\H c2=some (.tup (z.map V.int))/\z.length<=1000:=by
   match i,hx,hy with
   | 0,hx,hy=>cases hx;cases hy;exact ⟨a,a2,_,rfl,rfl,ha,ha2,hl⟩
   | 1,hx,hy=>cases hx;cases hy;exact ⟨b,b2,_,rfl,rfl,hb,hb2,by show 2<=1000;decide⟩
   | j+2,hx,_=>simp at hx
  obtain ⟨c,c2,z,rfl,rfl,hc,hc2,hzl⟩:=hz
  refine ⟨_,rfl,_,rfl,c,c2,z,rfl,hS' _ _ hc,hS' _ _ hc2,hzl,fun H3 g3=>⟨hS'.trans g3,?_⟩⟩
  rw[kK]
 ·obtain ⟨hS,rfl⟩:=h
  intro pz hpz
  refine ⟨pz,_,rfl,.inl (.of f9),?_,?_⟩
  ·rw[aw];simp[qp]
  ·rw[show ((u5 ([V.ref a,V.ref b]).length (V.bl true)).all iZ)=true by rw[aw];simp[iZ]]
   exact q _ (hS.trans (i8.new hpz))
noncomputable def pE:Sp:=fun vs H Q _=>∃(p r:Addr) (xs ys:List V) (T:F0),vs=[.ref p,.ref r]/\H p=some (.lst xs)/\H r=some (.lst ys)/\BQ H T xs/\BQ H T ys/\T.length<=1000/\(∀z∈T,z.1.length<=1000)/\∀H',i8 H H'->Q (.bl true) H'
theorem Dw (F:cH K "_law_same" "_law_same" gX f fd) (B:Bt mg) (c1:W5 P w K mg base 3 "_law_same" ["_law_found","_law_due_here"] pF):O5 P w K mg base dQ 4 f fd ["_law_found","_law_due_here"] pE:=by
 refine F.ok oC (fun vs H Q E h=>?_) (fun cdv A outer s H vs Q E hr h=>?_)
 ·obtain ⟨p,r,xs,ys,T,rfl,_⟩:=h
  rfl
 obtain ⟨p,r,xs,ys,T,rfl,hp,hr2,tx,ty,hl,hzl,q⟩:=h
 refine ⟨_,m7 (T9 (Z0 (n9 Bm rfl B.isinstance r0 (b8 (pv 1) (b8 (C7 (b8 (O8 rfl B.tuple E7) (b8 (O8 rfl B.list Z3) f6))) f6))))
   (m7 (T9 (PW.pt (lg (P0 gq (n9 (M8 cB) rfl B.isinstance r0 (b8 (pv 0) (b8 (O8 rfl B.tuple E7) f6))) (n9 (M8 cB) rfl B.isinstance r0 (b8 (pv 1) (b8 (O8 rfl B.tuple E7) f6))) (N6 _))
    (hJ (P0 gq (n9 (M8 gv) rfl B.isinstance r0 (b8 (pv 0) (b8 (O8 rfl B.list Z3) f6))) (n9 (M8 gv) rfl B.isinstance r0 (b8 (pv 1) (b8 (O8 rfl B.list Z3) f6))) (N6 _))))) (t6 (C6 bR)) J7)
   (t6 (C6 (cS (eF iz (n9 D6 rfl B.len C4 (b8 (pv 0) f6)) (n9 D6 rfl B.len C4 (b8 (pv 1) f6)) (N6 _))
    (cR (n9 (Z8 rfl) rfl B.all nX (b8 (O7 (N:=["_law_one","_law_other"]) (ix:=[none,none]) (ifs:=[]) (tc:=X4) rfl (Dd rfl B.zip (b8 (pv 0) (b8 (pv 1) f6)))
     (fun s H ex=>AE (K:=K) (n:=2) rfl rfl (M6 (cx (i:=0) (by decide +kernel) rfl (A5 rfl) (.inr rfl)) (M6 (cx (i:=1) (by decide +kernel) rfl (A5 rfl) (.inr rfl)) cw))) (fun s H ex=>O1)
     (fun s H ex=>B4 c1 hr rfl (b8 (pv 0) (b8 (pv 1) f6))) rfl (by decide +kernel) (by rfl) (by rfl) (fun _=>rfl)) f6))))))) J7) jy,?_⟩
 have dp:∀H',i8 H H'->∃N,∀st,N<st->Dt st H' (.list (T.map pD)) (.ref p):=fun H' g=>by
  obtain ⟨N,hN⟩:=qN (tx.same g)
  exact ⟨N+p,fun st hst=>Dt.lst (n0 (B8 (V7 _ _) hst)) (g _ _ hp) (hN st (B8 (E6 _ _) hst))⟩
 have dr:∀H',i8 H H'->∃N,∀st,N<st->Dt st H' (.list (T.map pD)) (.ref r):=fun H' g=>by
  obtain ⟨N,hN⟩:=qN (ty.same g)
  exact ⟨N+r,fun st hst=>Dt.lst (n0 (B8 (V7 _ _) hst)) (g _ _ hr2) (hN st (B8 (E6 _ _) hst))⟩
 have dp:=fun H' g=>(dp H' g).choose_spec _ (U1 _)
 have dr:=fun H' g=>(dr H' g).choose_spec _ (U1 _)
 have hxy:xs.length=ys.length:=by rw[tx.len,ty.len]
 have hlx:xs.length<=1000:=by rw[tx.len];exact hl
 refine ⟨_,rfl,(by show 2<=i0;decide),fun t ht=>?_⟩
 have g1:i8 H (n8 H t (.tup [.ty "tuple",.ty "list"])):=i8.new ht
 refine ⟨.ref r,_,_,t,rfl,dr _ g1,rfl,f9,_,rfl,V4 ?_⟩
 generalize n8 H t (.tup [.ty "tuple",.ty "list"])=H1 at g1
 refine ⟨_,rfl,.ref p,_,_,rfl,dp _ g1,_,rfl,.ref r,_,_,rfl,dr _ g1,rfl,_,rfl,?_⟩
 rw[decide_eq_true rfl]
 refine W0 ⟨_,rfl,.ref p,_,_,rfl,dp _ g1,_,rfl,.ref r,_,_,rfl,dr _ g1,rfl,_,rfl,?_⟩
 rw[decide_eq_true rfl]
 refine W0 ⟨_,rfl,p,_,rfl,.inl (.of (g1 _ _ hp)),_,rfl,r,_,rfl,.inl (.of (g1 _ _ hr2)),rfl,_,rfl,?_⟩
 rw[decide_eq_true (by rw[hxy])]
 refine V4 ⟨_,rfl,_,rfl,p,r,_,_,rfl,.of (g1 _ _ hp),.of (g1 _ _ hr2),?_⟩
 refine Bo (K:=K) (a:=p) (b:=r) (xs:=xs) (ys:=ys) (sz hlx) hxy
  (fun i zs H2=>i8 H H2/\zs=u5 i (.bl true)) ⟨g1,rfl⟩ (fun i zs H2 h=>by rw[h.2,P1]) (fun i zs H2 _ h=>⟨.of (h.1 _ _ hp),.of (h.1 _ _ hr2)⟩) ⟨rfl,rfl⟩ (fun i zs H2 x y p' hx hy hp' h=>?_) (fun zs H2 h=>?_)
 ·obtain ⟨hS,rfl⟩:=h
  have hS':=hS.trans (i8.new (o:=.tup [x,y]) hp')
  obtain ⟨z,r1,a,b,ez,rfl,h1,h2,h3⟩:=tx.get hx
  obtain ⟨z',r2,a2,b2,ez',rfl,k1,k2,k3⟩:=ty.get hy
  rw[ez] at ez'
  cases ez'
  refine ⟨_,rfl,_,rfl,r1,r2,a,b,a2,b2,z,rfl,hS' _ _ h1,hS' _ _ k1,hS' _ _ h2,hS' _ _ h3,hS' _ _ k2,hS' _ _ k3,hzl z (m8 ez),fun H3 g3=>⟨hS'.trans g3,?_⟩⟩
  rw[kK]
 ·obtain ⟨hS,rfl⟩:=h
  intro pz hpz
  refine ⟨pz,_,rfl,.inl (.of f9),?_,?_⟩
  ·rw[aw];simp[qp]
  ·rw[show ((u5 (xs).length (V.bl true)).all iZ)=true by rw[aw];simp[iZ]]
   exact q _ (hS.trans (i8.new hpz))
end
end G
namespace G
open PySem PySem.Spec PyProof.Rows L2 Mt
section
variable {P:j7}{w:u9}{K:m6}{mg:Str->Option b9}{base:Heap}{f:Addr}{fd:C5}{ec:Nat->Addr}{Bs:Addr}
noncomputable def xJ:Sp:=fun vs H Q _=>∃(l:Addr) (x:Int) (b:Bool),vs=[.ref l]/\H l=some (.lst [.int x,.bl b])/\mU x b/\∀(v:V) (H':Hp),aH l b H H'->Tg l H' v->Q v H'
noncomputable abbrev CM:Stmt:=gI 52
theorem CJ:D8 ["_law_state_here","_law_some"] ["_law_state_here"] (w6 CM):=⟨rfl,rfl,rfl,by decide +kernel,rfl,by decide +kernel,by decide +kernel⟩
theorem IK (F:cH K "_law_odd" "_law_odd" CM f fd) (c1:W5 P w K mg base 1 "_law_take" ["_law_state_here","_law_many"] bI):O5 P w K mg base dQ 2 f fd ["_law_state_here"] xJ:=by
 refine F.ok CJ (fun vs H Q E h=>?_) (fun cdv A outer s H vs Q E hr h=>?_)
 ·obtain ⟨l,x,b,rfl,_⟩:=h
  rfl
 obtain ⟨l,x,b,rfl,hl,hst,q⟩:=h
 refine ⟨_,@m7 _ _ _ _ _ (@F8 _ _ 1 _ _ _ _ CJ.nd rfl (A5 rfl) (@S3 _ _ _ _ (@mD _ _ _ _ 8 rfl (@qk _ _ _ _ _ _ _ (@C7 _ _ _ _ _ f6) (@KW _ _ _ _ _ _ (@S3 _ _ _ _ f6) (@qk _ _ _ _ _ _ _ (@C7 _ _ _ _ _ (@jM _ _ _ _ _ _ _ bR f6)) (@KW _ _ _ _ _ _ (@S3 _ _ _ _ (@jM _ _ _ _ _ _ _ i9 f6)) (@pa_d _ _ _ _ _ _ _ KS (@qk _ _ _ _ _ _ _ (@C7 _ _ _ _ _ (@jM _ _ _ _ _ _ _ kB f6)) (@qk _ _ _ _ _ _ _ (@C7 _ _ _ _ _ (@qk _ _ _ _ _ _ _ (@C7 _ _ _ _ _ (@jM _ _ _ _ _ _ _ i9 f6)) f6)) (@pa_b _ _ _ _ _ _ _ _ (@B7 _ _ _ _ _ _ _ _ kD i9 i9) (@qk _ _ _ _ _ _ _ (@C7 _ _ _ _ _ (@jM _ _ _ _ _ _ _ i9 f6)) (@qk _ _ _ _ _ _ _ (@C7 _ _ _ _ _ (@jM _ _ _ _ _ _ _ i9 f6)) f6)))))))))))) rfl (.inl rfl))
  (t6 (C6 (M7 W4 (B7 ql (pv 1) (@S3 _ _ _ _ (@qk _ _ _ _ _ _ _ (@C7 _ _ _ _ _ (@jM _ _ _ _ _ _ _ i9 (@jM _ _ _ _ _ _ _ i9 (@jM _ _ _ _ _ _ _ i9 (@jM _ _ _ _ _ _ _ i9 (@jM _ _ _ _ _ _ _ i9 f6)))))) (@qk _ _ _ _ _ _ _ (@C7 _ _ _ _ _ (@qk _ _ _ _ _ _ _ (@C7 _ _ _ _ _ (@jM _ _ _ _ _ _ _ i9 (@jM _ _ _ _ _ _ _ i9 f6))) (@qk _ _ _ _ _ _ _ (@C7 _ _ _ _ _ (@jM _ _ _ _ _ _ _ i9 (@jM _ _ _ _ _ _ _ i9 f6))) f6))) f6)))) (B4 c1 hr rfl (b8 (pv 0) (b8 i9 f6))) (fun _ _=>rfl)))),?_⟩
 have sH:aH l b H H:=aH.start hl hst
 refine ⟨(by show 0<=i0;decide),fun a0 hna0=>?_⟩
 have ga0:i8 H (n8 H a0 (.tup [])):=i8.new hna0
 have ha0:n8 H a0 (.tup []) a0=some (.tup []):=f9
 have na0:a0≠l:=(sH.ne hna0).symm
 have sJa0:=sH.same ga0
 try dsimp only
 generalize n8 H a0 (.tup [])=Ja0 at ga0 ha0 sJa0
 refine ⟨(by show 0<=i0;decide),fun a1 hna1=>?_⟩
 have ga1:i8 Ja0 (n8 Ja0 a1 (.lst [])):=i8.new hna1
 have ha1:n8 Ja0 a1 (.lst []) a1=some (.lst []):=f9
 have na1:a1≠l:=(sJa0.ne hna1).symm
 have sJa1:=sJa0.same ga1
 try dsimp only
 generalize n8 Ja0 a1 (.lst [])=Ja1 at ga1 ha1 sJa1
 refine ⟨(by show 1<=i0;decide),fun a2 hna2=>?_⟩
 have ga2:i8 Ja1 (n8 Ja1 a2 (.tup [.bl true])):=i8.new hna2
 have ha2:n8 Ja1 a2 (.tup [.bl true]) a2=some (.tup [.bl true]):=f9
 have na2:a2≠l:=(sJa1.ne hna2).symm
 have sJa2:=sJa1.same ga2
 try dsimp only
 generalize n8 Ja1 a2 (.tup [.bl true])=Ja2 at ga2 ha2 sJa2
 refine ⟨(by show 1<=i0;decide),fun a3 hna3=>?_⟩
 have ga3:i8 Ja2 (n8 Ja2 a3 (.lst [.int 1])):=i8.new hna3
 have ha3:n8 Ja2 a3 (.lst [.int 1]) a3=some (.lst [.int 1]):=f9
 have na3:a3≠l:=(sJa2.ne hna3).symm
 have sJa3:=sJa2.same ga3
 try dsimp only
 generalize n8 Ja2 a3 (.lst [.int 1])=Ja3 at ga3 ha3 sJa3
 intro a4 hna4
 have ga4:i8 Ja3 (n8 Ja3 a4 (.dK [(S0 0,.int 1)])):=i8.new hna4
 have ha4:n8 Ja3 a4 (.dK [(S0 0,.int 1)]) a4=some (.dK [(S0 0,.int 1)]):=f9
 have na4:a4≠l:=(sJa3.ne hna4).symm
 have sJa4:=sJa3.same ga4
 try dsimp only
 generalize n8 Ja3 a4 (.dK [(S0 0,.int 1)])=Ja4 at ga4 ha4 sJa4
 refine ⟨(by show 1<=i0;decide),fun a5 hna5=>?_⟩
 have ga5:i8 Ja4 (n8 Ja4 a5 (.tup [.non])):=i8.new hna5
 have ha5:n8 Ja4 a5 (.tup [.non]) a5=some (.tup [.non]):=f9
 have na5:a5≠l:=(sJa4.ne hna5).symm
 have sJa5:=sJa4.same ga5
 try dsimp only
 generalize n8 Ja4 a5 (.tup [.non])=Ja5 at ga5 ha5 sJa5
 refine ⟨(by show 1<=i0;decide),fun a6 hna6=>?_⟩
 have ga6:i8 Ja5 (n8 Ja5 a6 (.tup [.int 1])):=i8.new hna6
 have ha6:n8 Ja5 a6 (.tup [.int 1]) a6=some (.tup [.int 1]):=f9
 have na6:a6≠l:=(sJa5.ne hna6).symm
 have sJa6:=sJa5.same ga6
 try dsimp only
 generalize n8 Ja5 a6 (.tup [.int 1])=Ja6 at ga6 ha6 sJa6
 refine ⟨(by show 1<=i0;decide),fun a7 hna7=>?_⟩
 have ga7:i8 Ja6 (n8 Ja6 a7 (.tup [.ref a6])):=i8.new hna7
 have ha7:n8 Ja6 a7 (.tup [.ref a6]) a7=some (.tup [.ref a6]):=f9
 have na7:a7≠l:=(sJa6.ne hna7).symm
 have sJa7:=sJa6.same ga7
 try dsimp only
 generalize n8 Ja6 a7 (.tup [.ref a6])=Ja7 at ga7 ha7 sJa7
 refine ⟨_,_,rfl,rfl,⟨by decide,by decide,by decide⟩,?_⟩
 refine ⟨(by show 1<=i0;decide),fun a8 hna8=>?_⟩
 have ga8:i8 Ja7 (n8 Ja7 a8 (.tup [.int 0])):=i8.new hna8
 have ha8:n8 Ja7 a8 (.tup [.int 0]) a8=some (.tup [.int 0]):=f9
 have na8:a8≠l:=(sJa7.ne hna8).symm
 have sJa8:=sJa7.same ga8
 try dsimp only
 generalize n8 Ja7 a8 (.tup [.int 0])=Ja8 at ga8 ha8 sJa8
 refine ⟨(by show 1<=i0;decide),fun a9 hna9=>?_⟩
 have ga9:i8 Ja8 (n8 Ja8 a9 (.tup [.int 21])):=i8.new hna9
 have ha9:n8 Ja8 a9 (.tup [.int 21]) a9=some (.tup [.int 21]):=f9
 have na9:a9≠l:=(sJa8.ne hna9).symm
 have sJa9:=sJa8.same ga9
 try dsimp only
 generalize n8 Ja8 a9 (.tup [.int 21])=Ja9 at ga9 ha9 sJa9
 have ea0:=(((((((((ga1).trans ga2).trans ga3).trans ga4).trans ga5).trans ga6).trans ga7).trans ga8).trans ga9) _ _ ha0
 have ea1:=((((((((ga2).trans ga3).trans ga4).trans ga5).trans ga6).trans ga7).trans ga8).trans ga9) _ _ ha1
 have ea2:=(((((((ga3).trans ga4).trans ga5).trans ga6).trans ga7).trans ga8).trans ga9) _ _ ha2
 have ea3:=((((((ga4).trans ga5).trans ga6).trans ga7).trans ga8).trans ga9) _ _ ha3
 have ea4:=(((((ga5).trans ga6).trans ga7).trans ga8).trans ga9) _ _ ha4
 have ea5:=((((ga6).trans ga7).trans ga8).trans ga9) _ _ ha5
 have ea6:=(((ga7).trans ga8).trans ga9) _ _ ha6
 have ea7:=((ga8).trans ga9) _ _ ha7
 have ea8:=(ga9) _ _ ha8
 have ea9:=(i8.refl _) _ _ ha9
 refine ⟨(by show 18<=i0;decide),fun pl hnpl=>?_⟩
 have gL:i8 Ja9 (n8 Ja9 pl (.lst ([.non,.bl true,.bl false,.int (-1),.int 0,.int 1,.str "",.str "1"]++[.ref a0,.ref a1,.ref a2,.ref a3,.ref a4,.ref a5,.ref a7,.int (10 ^ 29),.ref a8,.ref a9]))):=i8.new hnpl
 have hL:n8 Ja9 pl (.lst ([.non,.bl true,.bl false,.int (-1),.int 0,.int 1,.str "",.str "1"]++[.ref a0,.ref a1,.ref a2,.ref a3,.ref a4,.ref a5,.ref a7,.int (10 ^ 29),.ref a8,.ref a9])) pl=some (.lst ([.non,.bl true,.bl false,.int (-1),.int 0,.int 1,.str "",.str "1"]++[.ref a0,.ref a1,.ref a2,.ref a3,.ref a4,.ref a5,.ref a7,.int (10 ^ 29),.ref a8,.ref a9])):=f9
 have sHL:=sJa9.same gL
 show HQ _ _ _ (n8 Ja9 pl (.lst ([.non,.bl true,.bl false,.int (-1),.int 0,.int 1,.str "",.str "1"]++[.ref a0,.ref a1,.ref a2,.ref a3,.ref a4,.ref a5,.ref a7,.int (10 ^ 29),.ref a8,.ref a9])))
 generalize n8 Ja9 pl (.lst ([.non,.bl true,.bl false,.int (-1),.int 0,.int 1,.str "",.str "1"]++[.ref a0,.ref a1,.ref a2,.ref a3,.ref a4,.ref a5,.ref a7,.int (10 ^ 29),.ref a8,.ref a9]))=HL at gL hL sHL
 refine ⟨_,rfl,?_⟩
 refine ⟨(by show 5<=i0;decide),fun b0 hnb0=>?_⟩
 have gb0:i8 HL (n8 HL b0 (.tup [.int 1,.int 1,.int 1,.int 1,.int 1])):=i8.new hnb0
 have hb0:n8 HL b0 (.tup [.int 1,.int 1,.int 1,.int 1,.int 1]) b0=some (.tup [.int 1,.int 1,.int 1,.int 1,.int 1]):=f9
 have nb0:b0≠l:=(sHL.ne hnb0).symm
 have sJb0:=sHL.same gb0
 try dsimp only
 generalize n8 HL b0 (.tup [.int 1,.int 1,.int 1,.int 1,.int 1])=Jb0 at gb0 hb0 sJb0
 refine ⟨(by show 2<=i0;decide),fun b1 hnb1=>?_⟩
 have gb1:i8 Jb0 (n8 Jb0 b1 (.tup [.int 0,.int 0])):=i8.new hnb1
 have hb1:n8 Jb0 b1 (.tup [.int 0,.int 0]) b1=some (.tup [.int 0,.int 0]):=f9
 have nb1:b1≠l:=(sJb0.ne hnb1).symm
 have sJb1:=sJb0.same gb1
 try dsimp only
 generalize n8 Jb0 b1 (.tup [.int 0,.int 0])=Jb1 at gb1 hb1 sJb1
 refine ⟨(by show 2<=i0;decide),fun b2 hnb2=>?_⟩
 have gb2:i8 Jb1 (n8 Jb1 b2 (.tup [.int 0,.int 0])):=i8.new hnb2
 have hb2:n8 Jb1 b2 (.tup [.int 0,.int 0]) b2=some (.tup [.int 0,.int 0]):=f9
 have nb2:b2≠l:=(sJb1.ne hnb2).symm
 have sJb2:=sJb1.same gb2
 try dsimp only
 generalize n8 Jb1 b2 (.tup [.int 0,.int 0])=Jb2 at gb2 hb2 sJb2
 refine ⟨(by show 2<=i0;decide),fun b3 hnb3=>?_⟩
 have gb3:i8 Jb2 (n8 Jb2 b3 (.tup [.ref b1,.ref b2])):=i8.new hnb3
 have hb3:n8 Jb2 b3 (.tup [.ref b1,.ref b2]) b3=some (.tup [.ref b1,.ref b2]):=f9
 have nb3:b3≠l:=(sJb2.ne hnb3).symm
 have sJb3:=sJb2.same gb3
 try dsimp only
 generalize n8 Jb2 b3 (.tup [.ref b1,.ref b2])=Jb3 at gb3 hb3 sJb3
 have eb0:=(((gb1).trans gb2).trans gb3) _ _ hb0
 have eb1:=((gb2).trans gb3) _ _ hb1
 have eb2:=(gb3) _ _ hb2
 have eb3:=(i8.refl _) _ _ hb3
 refine ⟨(by show 2<=i0;decide),fun ph hnph=>⟨pl,ph,[.non,.bl true,.bl false,.int (-1),.int 0,.int 1,.str "",.str "1"]++[.ref a0,.ref a1,.ref a2,.ref a3,.ref a4,.ref a5,.ref a7,.int (10 ^ 29),.ref a8,.ref a9],[.ref b0,.ref b3],rfl,rfl,i8.new hnph _ _ (((((gb0).trans gb1).trans gb2).trans gb3) _ _ hL),f9,(by show 18+2<=i0;decide),fun pz hnpz=>?_⟩⟩
 have gZ:i8 Jb3 (n8 (n8 Jb3 ph (.lst [.ref b0,.ref b3])) pz (.lst (([.non,.bl true,.bl false,.int (-1),.int 0,.int 1,.str "",.str "1"]++[.ref a0,.ref a1,.ref a2,.ref a3,.ref a4,.ref a5,.ref a7,.int (10 ^ 29),.ref a8,.ref a9])++[.ref b0,.ref b3]))):=(i8.new hnph).trans (i8.new hnpz)
 have hZ:n8 (n8 Jb3 ph (.lst [.ref b0,.ref b3])) pz (.lst (([.non,.bl true,.bl false,.int (-1),.int 0,.int 1,.str "",.str "1"]++[.ref a0,.ref a1,.ref a2,.ref a3,.ref a4,.ref a5,.ref a7,.int (10 ^ 29),.ref a8,.ref a9])++[.ref b0,.ref b3])) pz=some (.lst (([.non,.bl true,.bl false,.int (-1),.int 0,.int 1,.str "",.str "1"]++[.ref a0,.ref a1,.ref a2,.ref a3,.ref a4,.ref a5,.ref a7,.int (10 ^ 29),.ref a8,.ref a9])++[.ref b0,.ref b3])):=f9
 have nz:pz≠l:=((sJb3.new hnph).ne hnpz).symm
 have sZ:=sJb3.same gZ
 try dsimp only
 generalize n8 (n8 Jb3 ph (.lst [.ref b0,.ref b3])) pz (.lst (([.non,.bl true,.bl false,.int (-1),.int 0,.int 1,.str "",.str "1"]++[.ref a0,.ref a1,.ref a2,.ref a3,.ref a4,.ref a5,.ref a7,.int (10 ^ 29),.ref a8,.ref a9])++[.ref b0,.ref b3]))=HZ at gZ hZ sZ
 have gA:i8 Ja9 HZ:=(gL.trans ((((gb0).trans gb1).trans gb2).trans gb3)).trans gZ
 have all:∀y∈((([.non,.bl true,.bl false,.int (-1),.int 0,.int 1,.str "",.str "1"]++[.ref a0,.ref a1,.ref a2,.ref a3,.ref a4,.ref a5,.ref a7,.int (10 ^ 29),.ref a8,.ref a9])++[.ref b0,.ref b3]):List V),Tg l HZ y:=fun y hy=>by
  simp only[W7,bW,A0,y7,or_false] at hy
  rcases hy with e|e|e|e|e|e|e|e|e|e|e|e|e|e|e|e|e|e|e|e
  ·rw[e];exact Tg.non _ _
  ·rw[e];exact Tg.bl _ _ _
  ·rw[e];exact Tg.bl _ _ _
  ·rw[e];exact Tg.int _ _ _
  ·rw[e];exact Tg.int _ _ _
  ·rw[e];exact Tg.int _ _ _
  ·rw[e];exact Tg.str _ _ _
  ·rw[e];exact Tg.str _ _ _
  ·rw[e];exact Tg.tup (gA _ _ ea0) na0 (by decide) fun z hz=>by cases hz
  ·rw[e];exact Tg.lst (gA _ _ ea1) na1 fun z hz=>by cases hz
  ·rw[e];exact Tg.tup (gA _ _ ea2) na2 (by decide) fun z hz=>by rw[List.mem_singleton.mp hz];exact (Tg.bl _ _ _).sh
  ·rw[e];exact Tg.lst (gA _ _ ea3) na3 fun z hz=>by rw[List.mem_singleton.mp hz];exact (Tg.int _ _ _).sh.da
  ·rw[e];exact Tg.dct (gA _ _ ea4) na4
  ·rw[e];exact Tg.tup (gA _ _ ea5) na5 (by decide) fun z hz=>by rw[List.mem_singleton.mp hz];exact (Tg.non _ _).sh
  ·rw[e];exact Tg.tup (gA _ _ ea7) na7 (by show 1<=1000;decide) fun z hz=>by
    rw[List.mem_singleton.mp hz]
    exact Sh.tup (gA _ _ ea6) na6 (by decide) fun z' hz'=>by rw[List.mem_singleton.mp hz'];exact (Tg.int _ _ _).sh.da
  ·rw[e];exact Tg.int _ _ _
  ·rw[e];exact Tg.tup (gA _ _ ea8) na8 (by decide) fun z hz=>by rw[List.mem_singleton.mp hz];exact (Tg.int _ _ _).sh
  ·rw[e];exact Tg.tup (gA _ _ ea9) na9 (by decide) fun z hz=>by rw[List.mem_singleton.mp hz];exact (Tg.int _ _ _).sh
  ·rw[e]
   refine Tg.tup (gZ _ _ eb0) nb0 (by decide) fun z hz=>?_
   have:z=.int 1:=by simpa using hz
   rw[this];exact (Tg.int _ _ _).sh
  ·rw[e]
   have zz:∀z∈([.int 0,.int 0]:List V),Da l HZ z:=fun z hz=>by
    have:z=.int 0:=by simpa using hz
    rw[this];exact (Tg.int _ _ _).sh.da
   refine Tg.tup (gZ _ _ eb3) nb3 (by show 2<=1000;decide) fun z hz=>?_
   simp only[A0,y7,or_false] at hz
   rcases hz with e|e
   ·rw[e];exact Sh.tup (gZ _ _ eb1) nb1 (by decide) zz
   ·rw[e];exact Sh.tup (gZ _ _ eb2) nb2 (by decide) zz
 generalize hL20:((([.non,.bl true,.bl false,.int (-1),.int 0,.int 1,.str "",.str "1"]++[.ref a0,.ref a1,.ref a2,.ref a3,.ref a4,.ref a5,.ref a7,.int (10 ^ 29),.ref a8,.ref a9])++[.ref b0,.ref b3]):List V)=L20 at hZ all
 have hlen:L20.length=20:=by rw[<- hL20];rfl
 obtain ⟨_,xz,hxz,okz⟩:=id sZ
 refine ⟨_,rfl,l,20,xz,b,rfl,hxz,okz,by decide,by decide,fun y xI hy okI=>?_⟩
 have sI:=sZ.go okI
 have kI':Kp l HZ (n8 HZ l (.lst [.int xI,.bl b])):=Kp.at
 exact ⟨pz,_,_,L20[y]'(by lia),rfl,rfl,.of (kI' _ _ nz hZ),D7 (f7 _),q _ _ sI ((all _ (K9 _)).kp kI')⟩
end
end G
namespace L2
open PySem PySem.Spec PyProof.Rows
section
variable {X:Cx}{pos:Pos}
noncomputable def Kn (i j k:Nat) (ta:TA):TS:=fun D σ H=>ta σ H fun vs H1=>∃v w z,vs=[v,w,z]/\D.nx (((σ.set i (some v)).set j (some w)).set k (some z)) H1
theorem Fy {i j k:Nat}{x y z:Str}{a b c:Expr}{ta:TA}{px py pz pt:Pos}{kt k2 pt2} (hc:X.calm=true) (hN:X.N.Nodup) (hi:X.N[i]?=some x) (hj:X.N[j]?=some y) (hk:X.N[k]?=some z) (hij:i≠j) (hik:i≠k) (hjk:j≠k)
  (hx:X.env.scope.names.lookup x=some .local) (hy:X.env.scope.names.lookup y=some .local) (hz:X.env.scope.names.lookup z=some .local) (ha:PA X [a,b,c] ta)
  (hw:qX [.Tuple [.Name x px,.Name y py,.Name z pz] kt pt] (.Tuple [a,b,c] k2 pt2) X.env=pure (some [x,y,z]))
  (hs:BL [.Tuple [.Name x px,.Name y py,.Name z pz] kt pt] (.Tuple [a,b,c] k2 pt2) pos.line X.env=pure false:=by rfl):
  PS X (.Assign [.Tuple [.Name x px,.Name y py,.Name z pz] kt pt] (.Tuple [a,b,c] k2 pt2) pos) (Kn i j k ta):=by
 intro pins s σ H D I h
 rw[exec_Assign_arm]
 refine b7 (fJ ?_)
 rw[hs]
 refine b7 (d6 ?_)
 rw[if_neg (by decide)]
 refine b7 (Tuple_ (W8 (ha _ pins s σ H _ I h) fun us s1 ⟨vs,H1,I1,r1,q1⟩=>?_))
 obtain ⟨v,w,q,e1,q1⟩:=q1
 subst e1
 obtain ⟨u1,u2,u3,rfl,rv,rw',rq⟩:∃u1 u2 u3,us=[u1,u2,u3]/\K2 v u1/\K2 w u2/\K2 q u3:=by
  cases r1 with
  | cons p q =>
   cases q with
   | cons p' q' =>
    cases q' with
    | cons p'' q'' =>
     cases q''
     exact ⟨_,_,_,rfl,p,p',p''⟩
 refine B6 ?_ (by show 3<=i0;decide)
 have I2:C8 X pins σ H1 { s1 with heap:=s1.heap.push { cls:=.type "tuple",data:=.seq [u1,u2,u3].toArray } }:=I1.kept (t':=s1.toks) fun b o e=>d7 _ e
 rw[hw]
 refine b7 (d6 ?_)
 show j6 (r6 X.prog X.w) X.A (do rule "assign.swapped-stores";let items <- unpackItems (.ref s1.heap.objs.size) 3 none;jG [fun v=>dY X.env z v,fun v=>dY X.env y v,fun v=>dY X.env x v] items.reverse;pure xA) _ _ _
 refine b7 (Q9 (b7 (LQ (items:=#[u1,u2,u3]) (I.ok.hd hc) (iL s1.heap _) fun h' hx'=>?_)))
 have I3:=I2.kept (h':=h') (t':=s1.toks) fun b o e=>hx' b o (n0 (i5 e)) e
 show j6 _ _ (jG [fun v=>dY X.env z v,fun v=>dY X.env y v,fun v=>dY X.env x v] [u3,u2,u1] >>= fun _=>pure xA) _ _ _
 refine b7 (aX (dW (cq I3 hN hk (.inl hz) rq (fun s2 I4=>?_) (.inr hz))))
 refine aX (dW (cq I4 hN hj (.inl hy) rw' (fun s3 I5=>?_) (.inr hy)))
 refine aX (dW (cq I5 hN hi (.inl hx) rv (fun s4 I6=>tm (d6 ?_)) (.inr hx)))
 rw[lU (l:=σ.set k (some q)) _ _ (F6 hij),lU (l:=σ) _ _ (F6 hik),lU (l:=σ.set i (some v)) _ _ (F6 hjk)] at I6
 exact ⟨_,H1,I6,q1⟩
end
end L2
set_option maxHeartbeats 8000000
namespace G
open PySem PySem.Spec PyProof.Rows L2 Mt Md Mq
mutual
theorem LJ {l T:Addr}{H:Hp}{ps:Array b9} (hT:H T=some (.tbl ps)):∀{d:A7}{v:V},Dt l H d v->Dt T H d v
 | .none,_,h=>by unfold Dt at h ⊢;exact h
 | .bool _,_,h=>by unfold Dt at h ⊢;exact h
 | .int _,_,h=>by unfold Dt at h ⊢;exact h
 | .str _,_,h=>by unfold Dt at h ⊢;exact h
 | .tuple ds,_,h=>by
  unfold Dt at h ⊢
  obtain ⟨a,xs,e,n,q,r⟩:=h
  exact ⟨a,xs,e,(fun z=>by rw[z,hT] at q;cases q),q,yN hT r⟩
 | .list ds,_,h=>by
  unfold Dt at h ⊢
  obtain ⟨a,xs,e,n,q,r⟩:=h
  exact ⟨a,xs,e,(fun z=>by rw[z,hT] at q;cases q),q,yN hT r⟩
 | .dict kvs,_,h=>by
  unfold Dt at h ⊢
  obtain ⟨z,a,e,n,q⟩:=h
  exact ⟨z,a,e,(fun z=>by rw[z,hT] at q;cases q),q⟩
theorem yN {l T:Addr}{H:Hp}{ps:Array b9} (hT:H T=some (.tbl ps)):∀{ds:List A7}{xs:List V},U3 l H ds xs->U3 T H ds xs
 | [],_,h=>by unfold U3 at h ⊢;exact h
 | d::ds,_,h=>by
  unfold U3 at h ⊢
  obtain ⟨x,r,e,q1,q2⟩:=h
  exact ⟨x,r,e,LJ hT q1,yN hT q2⟩
end
variable {H:Hp}
theorem Jq {K:m6}{T a:Addr}{H':Hp}{xs:List V}{ps:Array b9} (hT:H T=some (.tbl ps)) (k:Kp T H H') (h:dP K H a xs):dP K H' a xs:=by
 rcases h with (h|⟨o,h⟩)|h
 ·exact .inl (.inl (k _ _ (fun z=>by rw[z,hT] at h;cases h) h))
 ·exact .inl (.inr ⟨o,k _ _ (fun z=>by rw[z,hT] at h;cases h) h⟩)
 ·exact .inr h
noncomputable abbrev lq:Str:=(("law":Str)++".<locals>.")++"<lambda>"
mutual
theorem lM {l T:Addr}{H H':Hp}{ps:Array b9} (hT:H T=some (.tbl ps)) (k:Kp T H H'):∀{d:A7}{v:V},Dt l H d v->Dt l H' d v
 | .none,_,h=>by unfold Dt at h ⊢;exact h
 | .bool _,_,h=>by unfold Dt at h ⊢;exact h
 | .int _,_,h=>by unfold Dt at h ⊢;exact h
 | .str _,_,h=>by unfold Dt at h ⊢;exact h
 | .tuple ds,_,h=>by
  unfold Dt at h ⊢
  obtain ⟨a,xs,e,n,q,r⟩:=h
  exact ⟨a,xs,e,n,k _ _ (fun z=>by rw[z,hT] at q;cases q) q,qU hT k r⟩
 | .list ds,_,h=>by
  unfold Dt at h ⊢
  obtain ⟨a,xs,e,n,q,r⟩:=h
  exact ⟨a,xs,e,n,k _ _ (fun z=>by rw[z,hT] at q;cases q) q,qU hT k r⟩
 | .dict kvs,_,h=>by
  unfold Dt at h ⊢
  obtain ⟨z,a,e,n,q⟩:=h
  exact ⟨z,a,e,n,k _ _ (fun z=>by rw[z,hT] at q;cases q) q⟩
theorem qU {l T:Addr}{H H':Hp}{ps:Array b9} (hT:H T=some (.tbl ps)) (k:Kp T H H'):∀{ds:List A7}{xs:List V},U3 l H ds xs->U3 l H' ds xs
 | [],_,h=>by unfold U3 at h ⊢;exact h
 | d::ds,_,h=>by
  unfold U3 at h ⊢
  obtain ⟨x,r,e,q1,q2⟩:=h
  exact ⟨x,r,e,lM hT k q1,qU hT k q2⟩
end
noncomputable def LC (X:Cx) (params:dH) (body:Expr) (scope:T5) (H:Hp) (f:Addr):Prop:=∃c ctv,H f=some (KN (DS X params body scope c ctv))/\Ac (wd X) H c
section
variable {X:Cx}{params:dH}{body:Expr}{scope:T5}{H H':Hp}{f0 T p:Addr}
theorem FS {σ:L2.St}{Hf:Hp}{N:List Str}{ix:List (Option Nat)}{k:Nat}{c:Nat->Addr}{Q:VK}{o:Option Nat}
  (Zc:xp X) (fz:qR X σ H Hf) (hL:LC X params body scope H f0) (hfr:bO scope X.env=true) (k1:scope.kind=.function) (k2:scope.isCoroutine=false) (k3:scope.isGenerator=false) (k4:∀x∈scope.names,x.2≠.cell) (hx:jj scope X.N N ix=true) (hi:∀i,o=some i->i<10)
  (hba:∀c0 ctv,Aj (W.kla_fn "<lambda>" (wd X) params body scope (W9 X.env scope.names []) ((X.mg "__name__").getD .none) (.ref c0) ctv) ⟨[],[]⟩=pure [])
  (hrun:∀(c0:Addr) (A':A8) (outer':List Env) (s':d9) (E1:XK) (Q1:VK),cK k (A'.deeper (oS (wd X) scope s'.heap.objs.size f0 (.ref c0) (W9 X.env scope.names [])))->i8 H (cU (W9 X.env scope.names []) Hf)->Out c (cU (W9 X.env scope.names []) Hf) Q1 E1 o ->
   ∃t,PE (sM X.prog X.w X.K X.mg X.base N (wd X) scope f0 (.ref c0) (W9 X.env scope.names []) A' outer' s' (cU (W9 X.env scope.names []) Hf) E1) body t/\t (iP ix σ) (cU (W9 X.env scope.names []) Hf) Q1)
  (q:∀H',i8 Hf H'->Q (Dm o) H'):gR X.prog X.w X.K X.mg X.base (k+1) c [.ref f0] Hf Q E0:=by
 obtain ⟨c0,ctv,hf0,oc,ovs,ot,hoc,hod1,hod2⟩:=hL
 refine ⟨f0,Kx X.prog X.w X.K X.mg X.base k f0 c0 _ _ _ _ _ _ _ _ N,_,_,o,rfl,fz.same _ _ hf0,rfl,hba c0 ctv,fnL (Zc.lsc hfr k1 k2 k3 k4) (fun _ _ _ _ h=>h),hi,fun Q' E' ho=>?_,q⟩
 refine ⟨rfl,fz.same _ _ hf0,⟨oc,ovs,ot,fz.same _ _ hoc,hod1,hod2⟩,Zc.celk hfr fz,_,Zc.st hfr fz hx,fun A' outer' s' hr'=>?_⟩
 refine hrun c0 A' outer' s' _ _ hr' (fz.inner Zc hfr) ?_
 cases o with
 | none=>exact fun v H'' g=>ho v _ (zk g)
 | some i=>exact fun H'' g=>ho _ (zk g)
end
theorem CG:∀o:Option Nat,(∀i,o=some i->i<10)->Ic (Dm o) (Dm o)=true
 | none,_=>rfl
 | some 0,_=>rfl
 | some 1,_=>rfl
 | some 2,_=>rfl
 | some 3,_=>rfl
 | some 4,_=>rfl
 | some 5,_=>rfl
 | some 6,_=>rfl
 | some 7,_=>rfl
 | some 8,_=>rfl
 | some 9,_=>rfl
 | some (n+10),h=>absurd (h _ rfl) (by lia)
theorem IU (p:List Int × Rat):N3 (pD p)=true/\V9 (pD p)<=3:=by
 have h1:=Lj p.1
 have h2:=Lj (fr p.2)
 refine ⟨?_,?_⟩
 ·show N3 (.tuple [DI p.1,DI (fr p.2)])=true
  unfold N3 L6 L6 L6
  rw[h1.1,h2.1];rfl
 ·show V9 (.tuple [DI p.1,DI (fr p.2)])<=3
  unfold V9 N4 N4 N4
  have:=h1.2
  have:=h2.2
  lia
theorem ux:∀T:F0,L6 (T.map pD)=true/\N4 (T.map pD)<=3
 | []=>⟨rfl,by show N4 []<=3;unfold N4;lia⟩
 | p::T=>by
  have h1:=IU p
  have h2:=ux T
  refine ⟨?_,?_⟩
  ·show L6 (pD p::T.map pD)=true
   unfold L6
   rw[h1.1,h2.1];rfl
  ·show N4 (pD p::T.map pD)<=3
   unfold N4
   have:=h1.2
   have:=h2.2
   lia
theorem pN (T:F0):Y3 (.list (T.map pD))=true:=by
 unfold Y3
 rw[y6]
 refine ⟨?_,decide_eq_true ?_⟩
 ·show N3 (.list (T.map pD))=true
  unfold N3
  exact (ux T).1
 ·have:=(ux T).2
  show V9 (.list (T.map pD))<=64
  unfold V9
  lia
theorem Jg (p:List Int × Rat):aj (pD p) (pD p)=true:=by
 show aj (.tuple [DI p.1,DI (fr p.2)]) (.tuple [DI p.1,DI (fr p.2)])=true
 unfold aj K1 K1 K1
 rw[Lr,Lr,decide_eq_true rfl,decide_eq_true rfl];rfl
theorem zJ:∀T:F0,K1 (T.map pD) (T.map pD)=true
 | []=>by show K1 [] []=true;unfold K1;rfl
 | p::T=>by
  show K1 (pD p::T.map pD) (pD p::T.map pD)=true
  unfold K1
  rw[Jg,zJ T];rfl
theorem GK {D1 D2:Addr}{ys1 ys2:List V}{T:F0}{Q:VK} (h1:H D1=some (.lst ys1)) (b1:BQ H T ys1) (h2:H D2=some (.lst ys2)) (b2:BQ H T ys2) (q:Q (.bl false) H):KM (.ref D1) (.ref D2) H Q:=by
 obtain ⟨N1,d1⟩:=qN b1
 obtain ⟨N2,d2⟩:=qN b2
 have a1:N1<N1+N2+D1+D2+1:=bh (j0 (E6 _ _) (j0 (E6 _ _) (E6 _ _)))
 have a2:N2<N1+N2+D1+D2+1:=bh (j0 (V7 _ _) (j0 (E6 _ _) (E6 _ _)))
 have a3:D1≠N1+N2+D1+D2+1:=n0 (bh (j0 (V7 _ _) (E6 _ _)))
 have a4:D2≠N1+N2+D1+D2+1:=n0 (bh (V7 _ _))
 refine ⟨N1+N2+D1+D2+1,.list (T.map pD),.list (T.map pD),⟨D1,ys1,rfl,a3,h1,d1 _ a1⟩,⟨D2,ys2,rfl,a4,h2,d2 _ a2⟩,pN T,pN T,?_⟩
 have e:aj (.list (T.map pD)) (.list (T.map pD))=true:=by
  unfold aj
  exact zJ T
 rw[e];exact q
noncomputable def wV (d e g:A7):Option Nat->Prop
 | none=>cm 20 d=true/\bQ (bt d) e=true/\g=.int 1
 | some i=>(i=0/\cm 20 d=false) ∨ (i=1/\cm 20 d=true/\bQ (bt d) e=false) ∨ (i=5/\cm 20 d=true/\bQ (bt d) e=true/\Q8 0 6 g=false)
theorem Cq (d e g:A7) (hg:g=.int 1 ∨ Q8 0 6 g=false):∃o,wV d e g o/\∀i,o=some i->i<10:=by
 cases h1:cm 20 d with
 | false=>exact ⟨some 0,.inl ⟨rfl,h1⟩,fun i e=>by cases e;decide⟩
 | true =>
  cases h2:bQ (bt d) e with
  | false=>exact ⟨some 1,.inr (.inl ⟨rfl,h1,h2⟩),fun i e=>by cases e;decide⟩
  | true =>
   rcases hg with hg|hg
   ·exact ⟨none,⟨h1,h2,hg⟩,fun i e=>by cases e⟩
   ·exact ⟨some 5,.inr (.inr ⟨rfl,h1,h2,hg⟩),fun i e=>by cases e;decide⟩
variable {d e g:A7}{o:Option Nat}
theorem Fo (h:wV d e g o) (hu:cm 20 d=false):o=some 0:=by
 cases o with
 | none=>rw[h.1] at hu;cases hu
 | some i =>
  rcases h with ⟨rfl,_⟩|⟨_,z,_⟩|⟨_,z,_⟩
  ·rfl
  ·rw[hu] at z;cases z
  ·rw[hu] at z;cases z
theorem Fm (h:wV d e g o) (hu:cm 20 d=true) (hr:bQ (bt d) e=false):o=some 1:=by
 cases o with
 | none=>rw[h.2.1] at hr;cases hr
 | some i =>
  rcases h with ⟨_,z⟩|⟨rfl,_⟩|⟨_,_,z,_⟩
  ·rw[hu] at z;cases z
  ·rfl
  ·rw[hr] at z;cases z
theorem Fl (h:wV d e g o) (hu:cm 20 d=true) (hr:bQ (bt d) e=true):(g=.int 1/\o=none) ∨ (Q8 0 6 g=false/\o=some 5):=by
 cases o with
 | none=>exact .inl ⟨h.2.2,rfl⟩
 | some i =>
  rcases h with ⟨_,z⟩|⟨_,_,z⟩|⟨rfl,_,_,z⟩
  ·rw[hu] at z;cases z
  ·rw[hr] at z;cases z
  ·exact .inr ⟨z,rfl⟩
theorem HX {c:Nat->Addr}{st:Addr}{u v x:V}{Q:VK}{E:XK} (hu:Dt st H d u) (hus:dB d) (hv:Dt st H e v) (hvo:zl e) (hx:Dt st H g x) (hw:wV d e g o) (ho:Out c H Q E o):vC c [u,v,x] H Q E:=by
 cases o with
 | some i=>exact .inl ⟨st,u,v,x,d,e,g,i,rfl,hu,hus,hv,hvo,hx,hw,ho⟩
 | none =>
  obtain ⟨h1,h2,h3⟩:=hw
  obtain ⟨ns,e2,l1,l4,hb,hp⟩:=mf h1
  subst e2 h3
  obtain ⟨a,ea,_,ha⟩:=hu.di
  subst ea
  obtain ⟨rs',n,e3,e4,hR⟩:=xW h2
  subst e3
  rw[cA] at e4
  have e6:n=ns.length:=by lia
  subst e6
  have ex:=hx
  unfold Dt at ex
  subst ex
  have hU:Mt.jP ns.length 20 ns:=⟨rfl,fun y hy=>by have:=hb y hy;exact ⟨this.1,this.2⟩,hp⟩
  exact .inr ⟨st,a,v,ns.length,1,ns,rs',rfl,⟨hu,hU,hv,hR,l1,l4,by decide,eW hR l1 l4 hU (by decide)⟩,fun D ys T' H' _ g' _ _ _ _=>ho _ H' g'⟩
theorem Ax {t u:TS}{D:qT}{σ:L2.St}(R:L2.St->Hp->Prop) (h1:∀N:L2.St->Hp->Prop,(∀σ' Hx,R σ' Hx->N σ' Hx)->t { D with nx:=N } σ H) (h2:∀σ' Hx,R σ' Hx->u D σ' Hx):iM t u D σ H:=h1 (u D) h2
theorem CF {v:V}{i:Nat}{u:TS}{D:qT}{σ:L2.St}(h:u D (σ.set i (some v)) H):iM (Fs (tC v) (bC i)) u D σ H:=h
section
variable {P:j7}{w:u9}{K:m6}{mg:Str->Option b9}{base:Heap}{f:Addr}{fd:C5}
structure Cals (P:j7) (w:u9) (K:m6) (mg:Str->Option b9) (base:Heap) (c:Nat->Addr):Prop where
 state:W5 P w K mg base 10 "_law_state" ["_law_script","_law_k"] (pC K)
 take:W5 P w K mg base 10 "_law_take" ["_law_state_here","_law_many"] bI
 urn:W5 P w K mg base 10 "_law_urn_of" ["_law_state_here","_law_kinds"] tL
 rule:W5 P w K mg base 10 "_law_rule" ["_law_state_here","_law_kinds"] pJ
 bu:W5 P w K mg base 10 "_law_bent_urn" ["_law_state_here","_law_urn"] CB
 br:W5 P w K mg base 10 "_law_bent_rule" ["_law_state_here","_law_rule_here"] CC
 odd:W5 P w K mg base 10 "_law_odd" ["_law_state_here"] xJ
 number:W5 P w K mg base 10 "_law_number" ["_law_state_here","_law_most"] mi
 same:W5 P w K mg base 10 "_law_same" ["_law_found","_law_due_here"] pE
 due:W5 P w K mg base 10 "_law_due" ["_law_urn","_law_rule_here","_law_draws"] xM
 lisu:W5 P w K mg base 10 "_law_is_urn" ["_law_thing"] eQ
 lisr:W5 P w K mg base 10 "_law_is_rule" ["_law_kinds","_law_thing"] jb
 whole:W5 P w K mg base 10 "_law_whole" ["_law_thing"] eP
 st:iq P w K mg base 10 "stands" ["urn","rule","draws"] (vC c)
 st8:iq P w K mg base 8 "stands" ["urn","rule","draws"] (vC c)
 refused:W5 P w K mg base 10 "_law_refused" ["_law_call"] (gR P w K mg base 9 c)
noncomputable def yX (K:m6) (T:Addr):Sp:=fun vs H Q _=>∃(a:Addr) (ns:List Int),vs=[.ref a]/\dP K H a (ns.map V.int)/\ns.length<=63/\kJ lq T H/\∀H',Q (.bl true) H'
noncomputable abbrev pV:Stmt:=gI 59
theorem aN:D8 ["_law_script","_law_k","_law_state_here","_law_kinds","_law_urn","_law_rule_here","_law_draws","_law_due_here","_law_turn","_law_found","_law_bent","_law_bad","_law_none","_law_one","_law_two","_law_three","_law_word"] ["_law_script"] (w6 pV):=⟨rfl,rfl,rfl,by decide +kernel,rfl,by decide +kernel,by decide +kernel⟩
theorem IM {c:Nat->Addr}{T:Addr} (F:cH K "law" "law" pV f fd) (B:Bt mg) (C:Cals P w K mg base c) (hcode:∃cc,fd.code=.ref cc/\ke K cc T=true) (hKb:K.In base) (hbm:base.BuiltinsAt mg T):O5 P w K mg base dQ 11 f fd ["_law_script"] (yX K T):=by
 obtain ⟨cc,hcc,hcd⟩:=hcode
 refine F.okC aN (fun vs H Q E h=>?_) (fun cdv A outer s H vs Q E hcv hr h=>?_)
 ·obtain ⟨a,ns,rfl,_⟩:=h
  rfl
 obtain ⟨a,scr,rfl,hS,h63,hCT,q⟩:=h
 have Z:∀(X:Cx),X.env.code=cdv->X.base=base->X.mg=mg->LB X T:=fun X e1 e2 e3=>⟨⟨cc,by rw[e1,<- hcv,hcc],by rw[e2];exact W.codeHd_of_K hKb hcd⟩,by rw[e2,e3];exact hbm⟩
 refine ⟨_,(@m7 _ _ _ _ _ (T9 (@P0 _ _ _ _ _ _ _ _ (Dn hr.units) (dh C.st hr rfl yb (@b8 _ _ _ _ _ (@C7 _ _ _ _ _ (@b8 _ _ _ _ _ i9 (@b8 _ _ _ _ _ i9 f6 (by rfl)) (by rfl))) (@b8 _ _ _ _ _ (@C7 _ _ _ _ _ (@b8 _ _ _ _ _ (@C7 _ _ _ _ _ (@b8 _ _ _ _ _ i9 (@b8 _ _ _ _ _ i9 f6 (by rfl)) (by rfl))) (@b8 _ _ _ _ _ (@C7 _ _ _ _ _ (@b8 _ _ _ _ _ i9 (@b8 _ _ _ _ _ i9 f6 (by rfl)) (by rfl))) f6 (by rfl)) (by rfl))) (@b8 _ _ _ _ _ i9 f6 (by rfl)) (by rfl)) (by rfl))) (@S3 _ _ _ _ (@b8 _ _ _ _ _ (@C7 _ _ _ _ _ (@b8 _ _ _ _ _ (@C7 _ _ _ _ _ (@b8 _ _ _ _ _ i9 (@b8 _ _ _ _ _ i9 f6 (by rfl)) (by rfl))) (@b8 _ _ _ _ _ (@C7 _ _ _ _ _ (@b8 _ _ _ _ _ i9 (@b8 _ _ _ _ _ i9 f6 (by rfl)) (by rfl))) f6 (by rfl)) (by rfl))) (@b8 _ _ _ _ _ (@C7 _ _ _ _ _ (@b8 _ _ _ _ _ (@C7 _ _ _ _ _ (@b8 _ _ _ _ _ i9 (@b8 _ _ _ _ _ i9 f6 (by rfl)) (by rfl))) (@b8 _ _ _ _ _ (@C7 _ _ _ _ _ (@b8 _ _ _ _ _ i9 (@b8 _ _ _ _ _ i9 f6 (by rfl)) (by rfl))) f6 (by rfl)) (by rfl))) f6 (by rfl)) (by rfl))) (N6 _)) (@t6 _ _ _ (C6 bR)) J7)
  (@m7 _ _ _ _ _ (T9 (@P0 _ _ _ _ _ _ _ _ (Dn hr.units) (dh C.st hr rfl yb (@b8 _ _ _ _ _ (@C7 _ _ _ _ _ (@b8 _ _ _ _ _ i9 f6 (by rfl))) (@b8 _ _ _ _ _ (@C7 _ _ _ _ _ (@b8 _ _ _ _ _ (@C7 _ _ _ _ _ (@b8 _ _ _ _ _ i9 f6 (by rfl))) f6 (by rfl))) (@b8 _ _ _ _ _ i9 f6 (by rfl)) (by rfl)) (by rfl))) (@S3 _ _ _ _ (@b8 _ _ _ _ _ (@C7 _ _ _ _ _ (@b8 _ _ _ _ _ (@C7 _ _ _ _ _ (@b8 _ _ _ _ _ i9 f6 (by rfl))) (@b8 _ _ _ _ _ (@C7 _ _ _ _ _ (@b8 _ _ _ _ _ i9 (@b8 _ _ _ _ _ i9 f6 (by rfl)) (by rfl))) f6 (by rfl)) (by rfl))) f6 (by rfl))) (N6 _)) (@t6 _ _ _ (C6 bR)) J7)
  (@m7 _ _ _ _ _ (fq K3 rfl (S2 rfl B.range (@b8 _ _ _ _ _ (n9 (Bl rfl) rfl B.max boot_max (@b8 _ _ _ _ _ i9 (@b8 _ _ _ _ _ (n9 (Bk rfl) rfl B.min boot_min (@b8 _ _ _ _ _ (n9 D6 rfl B.len C4 (@b8 _ _ _ _ _ (pv 0) f6 (by rfl))) (@b8 _ _ _ _ _ i9 f6 (by rfl)) (by rfl))) f6 (by rfl)) (by rfl))) f6 (by rfl))) (W3 (i:=1) aN.nd rfl (A5 rfl))
  (@m7 _ _ _ _ _ (@F8 _ _ 2 _ _ _ _ aN.nd rfl (A5 rfl) (B4 C.state hr rfl (@b8 _ _ _ _ _ (pv 0) (@b8 _ _ _ _ _ (pv 1) f6 (by rfl)) (by rfl))) (by rfl) (by first|exact .inl rfl|exact .inr rfl))
  (@m7 _ _ _ _ _ (@F8 _ _ 3 _ _ _ _ aN.nd rfl (A5 rfl) (@B7 _ _ _ _ _ _ _ _ X8 i9 (B4 C.take hr rfl (@b8 _ _ _ _ _ (pv 2) (@b8 _ _ _ _ _ i9 f6 (by rfl)) (by rfl)))) (by rfl) (by first|exact .inl rfl|exact .inr rfl))
  (@m7 _ _ _ _ _ (Fy (i:=4) (j:=5) (k:=6) rfl aN.nd rfl rfl rfl (by decide) (by decide) (by decide) rfl rfl rfl (@b8 _ _ _ _ _ (B4 C.urn hr rfl (@b8 _ _ _ _ _ (pv 2) (@b8 _ _ _ _ _ (pv 3) f6 (by rfl)) (by rfl))) (@b8 _ _ _ _ _ (B4 C.rule hr rfl (@b8 _ _ _ _ _ (pv 2) (@b8 _ _ _ _ _ (pv 3) f6 (by rfl)) (by rfl))) (@b8 _ _ _ _ _ (B4 C.take hr rfl (@b8 _ _ _ _ _ (pv 2) (@b8 _ _ _ _ _ i9 f6 (by rfl)) (by rfl))) f6 (by rfl)) (by rfl)) (by rfl)) rfl)
  (@m7 _ _ _ _ _ (@F8 _ _ 7 _ _ _ _ aN.nd rfl (A5 rfl) (B4 C.due hr rfl (@b8 _ _ _ _ _ (pv 4) (@b8 _ _ _ _ _ (pv 5) (@b8 _ _ _ _ _ (pv 6) f6 (by rfl)) (by rfl)) (by rfl))) (by rfl) (by first|exact .inl rfl|exact .inr rfl))
  (@m7 _ _ _ _ _ (fq K3 rfl (S2 rfl B.range (@b8 _ _ _ _ _ i9 f6 (by rfl))) (W3 (i:=8) aN.nd rfl (A5 rfl))
  (@m7 _ _ _ _ _ (@F8 _ _ 9 _ _ _ _ aN.nd rfl (A5 rfl) (dh C.st hr rfl yb (@b8 _ _ _ _ _ (pv 4) (@b8 _ _ _ _ _ (pv 5) (@b8 _ _ _ _ _ (pv 6) f6 (by rfl)) (by rfl)) (by rfl))) (by rfl) (by first|exact .inl rfl|exact .inr rfl))
  (@m7 _ _ _ _ _ (T9 (bo (Z0 (B4 C.same hr rfl (@b8 _ _ _ _ _ (pv 9) (@b8 _ _ _ _ _ (pv 7) f6 (by rfl)) (by rfl))))) (@t6 _ _ _ (C6 bR)) J7)
  (@t6 _ _ _ (jz (GI uQ PySem.F.slot_list_append PySem.F.type_list_append AN (pv 9) (@b8 _ _ _ _ _ (@C7 _ _ _ _ _ f6) f6 (by rfl))))))))
  (@m7 _ _ _ _ _ (qe (i:=10) (j:=11) rfl aN.nd rfl rfl (by decide) rfl rfl (@b8 _ _ _ _ _ (@M7 _ _ _ _ _ _ _ W4 (@S3 _ _ _ _ (@b8 _ _ _ _ _ (B4 C.bu hr rfl (@b8 _ _ _ _ _ (pv 2) (@b8 _ _ _ _ _ (pv 4) f6 (by rfl)) (by rfl))) (@b8 _ _ _ _ _ (B4 C.odd hr rfl (@b8 _ _ _ _ _ (pv 2) f6 (by rfl))) f6 (by rfl)) (by rfl))) (B4 C.take hr rfl (@b8 _ _ _ _ _ (pv 2) (@b8 _ _ _ _ _ i9 f6 (by rfl)) (by rfl))) (fun _ _=>rfl)) (@b8 _ _ _ _ _ (B4 C.br hr rfl (@b8 _ _ _ _ _ (pv 2) (@b8 _ _ _ _ _ (pv 5) f6 (by rfl)) (by rfl))) f6 (by rfl)) (by rfl)) rfl)
  (@m7 _ _ _ _ _ (@F8 _ _ 12 _ _ _ _ aN.nd rfl (A5 rfl) (B4 C.number hr rfl (@b8 _ _ _ _ _ (pv 2) (@b8 _ _ _ _ _ i9 f6 (by rfl)) (by rfl))) (by rfl) (by first|exact .inl rfl|exact .inr rfl))
  (@t6 _ _ _ (fq K3 rfl (oD (@S3 _ _ _ _ (@b8 _ _ _ _ _ (@C7 _ _ _ _ _ (@b8 _ _ _ _ _ (pv 10) (@b8 _ _ _ _ _ (pv 5) (@b8 _ _ _ _ _ i9 f6 (by rfl)) (by rfl)) (by rfl))) (@b8 _ _ _ _ _ (@C7 _ _ _ _ _ (@b8 _ _ _ _ _ (pv 4) (@b8 _ _ _ _ _ (pv 11) (@b8 _ _ _ _ _ i9 f6 (by rfl)) (by rfl)) (by rfl))) (@b8 _ _ _ _ _ (@C7 _ _ _ _ _ (@b8 _ _ _ _ _ (pv 4) (@b8 _ _ _ _ _ (pv 5) (@b8 _ _ _ _ _ (pv 12) f6 (by rfl)) (by rfl)) (by rfl))) (@b8 _ _ _ _ _ (@C7 _ _ _ _ _ (@b8 _ _ _ _ _ (pv 10) (@b8 _ _ _ _ _ (pv 11) (@b8 _ _ _ _ _ (pv 12) f6 (by rfl)) (by rfl)) (by rfl))) (@b8 _ _ _ _ _ (@C7 _ _ _ _ _ (@b8 _ _ _ _ _ (pv 4) (@b8 _ _ _ _ _ (pv 11) (@b8 _ _ _ _ _ (pv 12) f6 (by rfl)) (by rfl)) (by rfl))) f6 (by rfl)) (by rfl)) (by rfl)) (by rfl)) (by rfl)))) (mB rfl (M6 (W3 (i:=13) aN.nd rfl (gD rfl)) (M6 (W3 (i:=14) aN.nd rfl (gD rfl)) (M6 (W3 (i:=15) aN.nd rfl (gD rfl)) cw))))
  (@m7 _ _ _ _ _ (@F8 _ _ 16 _ _ _ _ aN.nd rfl (A5 rfl) kB (by rfl) (by first|exact .inl rfl|exact .inr rfl))
  (@m7 _ _ _ _ _ (T9 (bo (Z0 (B4 C.lisu hr rfl (@b8 _ _ _ _ _ (pv 13) f6 (by rfl))))) (@t6 _ _ _ (@F8 _ _ 16 _ _ _ _ aN.nd rfl (A5 rfl) mC (by rfl) (by first|exact .inl rfl|exact .inr rfl))) (@t6 _ _ _ (T9 (bo (Z0 (B4 C.lisr hr rfl (@b8 _ _ _ _ _ (n9 D6 rfl B.len C4 (@b8 _ _ _ _ _ (pv 13) f6 (by rfl))) (@b8 _ _ _ _ _ (pv 14) f6 (by rfl)) (by rfl))))) (@t6 _ _ _ (@F8 _ _ 16 _ _ _ _ aN.nd rfl (A5 rfl) mC (by rfl) (by first|exact .inl rfl|exact .inr rfl))) (@t6 _ _ _ (T9 (PW.pt (lg (bo (Z0 (B4 C.whole hr rfl (@b8 _ _ _ _ _ (pv 15) f6 (by rfl))))) (hJ (@P0 _ _ _ _ _ _ _ _ gq (pv 15) i9 (N6 _))))) (@t6 _ _ _ (@F8 _ _ 16 _ _ _ _ aN.nd rfl (A5 rfl) mC (by rfl) (by first|exact .inl rfl|exact .inr rfl))) J7)))))
  (@t6 _ _ _ (T9 (@P0 _ _ _ _ _ _ _ _ gq (Dj C.refused hr rfl (@b8 _ _ _ _ _ (AF (Z _ rfl rfl rfl)) f6 (by rfl))) (pv 16) (N6 _)) (@t6 _ _ _ (C6 bR)) J7))))))))))))))
  (@t6 _ _ _ (C6 bR))))),?_⟩
 obtain ⟨ps0,hT0,_⟩:=id hCT
 refine ⟨(by show 2<=i0;decide),fun p1 hnp1=>⟨(by show 2<=i0;decide),fun p2 hnp2=>⟨(by show 2<=i0;decide),fun p3 hnp3=>⟨(by show 2<=i0;decide),fun p4 hnp4=>?_⟩⟩⟩⟩
 have gp1:i8 H (n8 H p1 (.tup [.int 1,.int 1])):=i8.new hnp1
 have hp1:n8 H p1 (.tup [.int 1,.int 1]) p1=some (.tup [.int 1,.int 1]):=f9
 generalize n8 H p1 (.tup [.int 1,.int 1])=Jp1 at gp1 hp1 hnp2 hnp3 hnp4
 have gp2:i8 Jp1 (n8 Jp1 p2 (.tup [.int 1,.int 0])):=i8.new hnp2
 have hp2:n8 Jp1 p2 (.tup [.int 1,.int 0]) p2=some (.tup [.int 1,.int 0]):=f9
 generalize n8 Jp1 p2 (.tup [.int 1,.int 0])=Jp2 at gp2 hp2 hnp3 hnp4
 have gp3:i8 Jp2 (n8 Jp2 p3 (.tup [.int 0,.int 1])):=i8.new hnp3
 have hp3:n8 Jp2 p3 (.tup [.int 0,.int 1]) p3=some (.tup [.int 0,.int 1]):=f9
 generalize n8 Jp2 p3 (.tup [.int 0,.int 1])=Jp3 at gp3 hp3 hnp4
 have gp4:i8 Jp3 (n8 Jp3 p4 (.tup [.ref p2,.ref p3])):=i8.new hnp4
 have hp4:n8 Jp3 p4 (.tup [.ref p2,.ref p3]) p4=some (.tup [.ref p2,.ref p3]):=f9
 generalize n8 Jp3 p4 (.tup [.ref p2,.ref p3])=Jp4 at gp4 hp4
 have ep1:=(((gp2).trans gp3).trans gp4) _ _ hp1
 have ep2:=((gp3).trans gp4) _ _ hp2
 have ep3:=(gp4) _ _ hp3
 have ep4:=(i8.refl _) _ _ hp4
 have ggp4:i8 H Jp4:=(((gp1).trans gp2).trans gp3).trans gp4
 have hTe:=ggp4 _ _ hT0
 have np1:p1≠T:=fun e=>by rw[e] at ep1;rw[hTe] at ep1;cases ep1
 have np2:p2≠T:=fun e=>by rw[e] at ep2;rw[hTe] at ep2;cases ep2
 have np3:p3≠T:=fun e=>by rw[e] at ep3;rw[hTe] at ep3;cases ep3
 have np4:p4≠T:=fun e=>by rw[e] at ep4;rw[hTe] at ep4;cases ep4
 have hRb:Mt.kF 2 5 [[1,0],[0,1]]:=⟨rfl,fun r hr=>by
  simp only[A0,y7,or_false] at hr
  rcases hr with rfl|rfl
  ·exact ⟨rfl,by decide⟩
  ·exact ⟨rfl,by decide⟩⟩
 have hUb:Mt.jP 2 20 [1,1]:=⟨rfl,by decide,by decide⟩
 refine .inr ⟨T,p1,.ref p4,2,1,[1,1],[[1,0],[0,1]],rfl,⟨Dt.mkI np1 ep1,hUb,Dt.tup np4 ep4 (U3.cons (Dt.mkI (ns:=[1,0]) np2 ep2) (U3.cons (Dt.mkI (ns:=[0,1]) np3 ep3) (U3.nil _ _))),hRb,by decide,by decide,by decide,eW hRb (by decide) (by decide) hUb (by decide)⟩,fun D0 ys0 T0 Hz _ gz hTp0 hTo0 hD0 hB0=>?_⟩
 have eT0:T0=[([1,2],cut 1 2),([2,1],cut 1 2)]:=by
  have ec:nQ [[1,0],[0,1]] 1 [([1,1],1)]=[([2,1],cut 1 2),([1,2],cut 1 2)]:=by decide +kernel
  rw[ec] at hTp0
  refine kC hTo0 (by unfold Eu;decide +kernel) ?_ (hTp0.trans (Cc _ _ _))
  unfold fN
  exact (hTp0.map _).nodup_iff.mpr (by decide +kernel)
 subst eT0
 refine ⟨(by show 2<=i0;decide),fun a1 hna1=>⟨(by show 2<=i0;decide),fun a2 hna2=>⟨(by show 2<=i0;decide),fun a3 hna3=>⟨(by show 2<=i0;decide),fun a4 hna4=>⟨(by show 2<=i0;decide),fun a5 hna5=>⟨(by show 2<=i0;decide),fun a6 hna6=>⟨(by show 2<=i0;decide),fun a7 hna7=>?_⟩⟩⟩⟩⟩⟩⟩
 have ga1:i8 Hz (n8 Hz a1 (.tup [.int 1,.int 2])):=i8.new hna1
 have ha1:n8 Hz a1 (.tup [.int 1,.int 2]) a1=some (.tup [.int 1,.int 2]):=f9
 generalize n8 Hz a1 (.tup [.int 1,.int 2])=Ja1 at ga1 ha1 hna2 hna3 hna4 hna5 hna6 hna7
 have ga2:i8 Ja1 (n8 Ja1 a2 (.tup [.int 1,.int 2])):=i8.new hna2
 have ha2:n8 Ja1 a2 (.tup [.int 1,.int 2]) a2=some (.tup [.int 1,.int 2]):=f9
 generalize n8 Ja1 a2 (.tup [.int 1,.int 2])=Ja2 at ga2 ha2 hna3 hna4 hna5 hna6 hna7
 have ga3:i8 Ja2 (n8 Ja2 a3 (.tup [.ref a1,.ref a2])):=i8.new hna3
 have ha3:n8 Ja2 a3 (.tup [.ref a1,.ref a2]) a3=some (.tup [.ref a1,.ref a2]):=f9
 generalize n8 Ja2 a3 (.tup [.ref a1,.ref a2])=Ja3 at ga3 ha3 hna4 hna5 hna6 hna7
 have ga4:i8 Ja3 (n8 Ja3 a4 (.tup [.int 2,.int 1])):=i8.new hna4
 have ha4:n8 Ja3 a4 (.tup [.int 2,.int 1]) a4=some (.tup [.int 2,.int 1]):=f9
 generalize n8 Ja3 a4 (.tup [.int 2,.int 1])=Ja4 at ga4 ha4 hna5 hna6 hna7
 have ga5:i8 Ja4 (n8 Ja4 a5 (.tup [.int 1,.int 2])):=i8.new hna5
 have ha5:n8 Ja4 a5 (.tup [.int 1,.int 2]) a5=some (.tup [.int 1,.int 2]):=f9
 generalize n8 Ja4 a5 (.tup [.int 1,.int 2])=Ja5 at ga5 ha5 hna6 hna7
 have ga6:i8 Ja5 (n8 Ja5 a6 (.tup [.ref a4,.ref a5])):=i8.new hna6
 have ha6:n8 Ja5 a6 (.tup [.ref a4,.ref a5]) a6=some (.tup [.ref a4,.ref a5]):=f9
 generalize n8 Ja5 a6 (.tup [.ref a4,.ref a5])=Ja6 at ga6 ha6 hna7
 have ga7:i8 Ja6 (n8 Ja6 a7 (.lst [.ref a3,.ref a6])):=i8.new hna7
 have ha7:n8 Ja6 a7 (.lst [.ref a3,.ref a6]) a7=some (.lst [.ref a3,.ref a6]):=f9
 generalize n8 Ja6 a7 (.lst [.ref a3,.ref a6])=Ja7 at ga7 ha7
 have ea1:=((((((ga2).trans ga3).trans ga4).trans ga5).trans ga6).trans ga7) _ _ ha1
 have ea2:=(((((ga3).trans ga4).trans ga5).trans ga6).trans ga7) _ _ ha2
 have ea3:=((((ga4).trans ga5).trans ga6).trans ga7) _ _ ha3
 have ea4:=(((ga5).trans ga6).trans ga7) _ _ ha4
 have ea5:=((ga6).trans ga7) _ _ ha5
 have ea6:=(ga7) _ _ ha6
 have ea7:=(i8.refl _) _ _ ha7
 have gga7:i8 Hz Ja7:=((((((ga1).trans ga2).trans ga3).trans ga4).trans ga5).trans ga6).trans ga7
 refine GK (gga7 _ _ hD0) (hB0.same gga7) ea7 ⟨⟨a3,a1,a2,rfl,ea3,ea1,ea2⟩,⟨a6,a4,a5,rfl,ea6,ea4,ea5⟩,trivial⟩ ⟨_,rfl,W0 ?_⟩
 have gT2:i8 H Ja7:=(ggp4.trans gz).trans gga7
 clear hTe np1 np2 np3 np4 ep1 ep2 ep3 ep4 ea1 ea2 ea3 ea4 ea5 ea6 ea7 hD0 hB0
 refine ⟨(by show 1<=i0;decide),fun q1 hnq1=>⟨(by show 1<=i0;decide),fun q2 hnq2=>⟨(by show 1<=i0;decide),fun q3 hnq3=>?_⟩⟩⟩
 have gq1:i8 Ja7 (n8 Ja7 q1 (.tup [.int 3])):=i8.new hnq1
 have hq1:n8 Ja7 q1 (.tup [.int 3]) q1=some (.tup [.int 3]):=f9
 generalize n8 Ja7 q1 (.tup [.int 3])=Jq1 at gq1 hq1 hnq2 hnq3
 have gq2:i8 Jq1 (n8 Jq1 q2 (.tup [.int 0])):=i8.new hnq2
 have hq2:n8 Jq1 q2 (.tup [.int 0]) q2=some (.tup [.int 0]):=f9
 generalize n8 Jq1 q2 (.tup [.int 0])=Jq2 at gq2 hq2 hnq3
 have gq3:i8 Jq2 (n8 Jq2 q3 (.tup [.ref q2])):=i8.new hnq3
 have hq3:n8 Jq2 q3 (.tup [.ref q2]) q3=some (.tup [.ref q2]):=f9
 generalize n8 Jq2 q3 (.tup [.ref q2])=Jq3 at gq3 hq3
 have eq1:=((gq2).trans gq3) _ _ hq1
 have eq2:=(gq3) _ _ hq2
 have eq3:=(i8.refl _) _ _ hq3
 have ggq3:i8 Ja7 Jq3:=((gq1).trans gq2).trans gq3
 have hTe:=(gT2.trans ggq3) _ _ hT0
 have nq1:q1≠T:=fun e=>by rw[e] at eq1;rw[hTe] at eq1;cases eq1
 have nq2:q2≠T:=fun e=>by rw[e] at eq2;rw[hTe] at eq2;cases eq2
 have nq3:q3≠T:=fun e=>by rw[e] at eq3;rw[hTe] at eq3;cases eq3
 have hRc:Mt.kF 1 5 [[0]]:=⟨rfl,fun r hr=>by
  simp only[A0,y7,or_false] at hr
  rw[hr]
  exact ⟨rfl,by decide⟩⟩
 have hUc:Mt.jP 1 20 [3]:=⟨rfl,by decide,by decide⟩
 refine .inr ⟨T,q1,.ref q3,1,6,[3],[[0]],rfl,⟨Dt.mkI nq1 eq1,hUc,Dt.tup nq3 eq3 (U3.cons (Dt.mkI (ns:=[0]) nq2 eq2) (U3.nil _ _)),hRc,by decide,by decide,by decide,eW hRc (by decide) (by decide) hUc (by decide)⟩,fun D1 ys1 T1 Hw _ gw hTp1 hTo1 hD1 hB1=>?_⟩
 have eT1:T1=[([3],1)]:=by
  have ec:nQ [[0]] 6 [([3],1)]=[([3],1)]:=by decide +kernel
  rw[ec] at hTp1
  exact List.perm_singleton.mp hTp1
 subst eT1
 refine ⟨(by show 1<=i0;decide),fun b1 hnb1=>⟨(by show 2<=i0;decide),fun b2 hnb2=>⟨(by show 2<=i0;decide),fun b3 hnb3=>⟨(by show 1<=i0;decide),fun b4 hnb4=>?_⟩⟩⟩⟩
 have gb1:i8 Hw (n8 Hw b1 (.tup [.int 3])):=i8.new hnb1
 have hb1:n8 Hw b1 (.tup [.int 3]) b1=some (.tup [.int 3]):=f9
 generalize n8 Hw b1 (.tup [.int 3])=Jb1 at gb1 hb1 hnb2 hnb3 hnb4
 have gb2:i8 Jb1 (n8 Jb1 b2 (.tup [.int 1,.int 1])):=i8.new hnb2
 have hb2:n8 Jb1 b2 (.tup [.int 1,.int 1]) b2=some (.tup [.int 1,.int 1]):=f9
 generalize n8 Jb1 b2 (.tup [.int 1,.int 1])=Jb2 at gb2 hb2 hnb3 hnb4
 have gb3:i8 Jb2 (n8 Jb2 b3 (.tup [.ref b1,.ref b2])):=i8.new hnb3
 have hb3:n8 Jb2 b3 (.tup [.ref b1,.ref b2]) b3=some (.tup [.ref b1,.ref b2]):=f9
 generalize n8 Jb2 b3 (.tup [.ref b1,.ref b2])=Jb3 at gb3 hb3 hnb4
 have gb4:i8 Jb3 (n8 Jb3 b4 (.lst [.ref b3])):=i8.new hnb4
 have hb4:n8 Jb3 b4 (.lst [.ref b3]) b4=some (.lst [.ref b3]):=f9
 generalize n8 Jb3 b4 (.lst [.ref b3])=Jb4 at gb4 hb4
 have eb1:=(((gb2).trans gb3).trans gb4) _ _ hb1
 have eb2:=((gb3).trans gb4) _ _ hb2
 have eb3:=(gb4) _ _ hb3
 have eb4:=(i8.refl _) _ _ hb4
 have ggb4:i8 Hw Jb4:=(((gb1).trans gb2).trans gb3).trans gb4
 refine GK (ggb4 _ _ hD1) (hB1.same ggb4) eb4 ⟨⟨b3,b1,b2,rfl,eb3,eb1,eb2⟩,trivial⟩ ⟨_,rfl,W0 ?_⟩
 have gTot:i8 H Jb4:=((gT2.trans ggq3).trans gw).trans ggb4
 clear hTe nq1 nq2 nq3 eq1 eq2 eq3 eb1 eb2 eb3 eb4 hD1 hB1
 generalize Jb4=Hy at gTot
 have hS0:dP K Hy a (scr.map V.int):=by
  rcases hS with (h|⟨o,h⟩)|h
  ·exact .inl (.inl (gTot _ _ h))
  ·exact .inl (.inr ⟨o,gTot _ _ h⟩)
  ·exact .inr h
 have hCT0:=hCT.same gTot
 show iM _ _ _ _ Hy
 refine ⟨_,rfl,a,_,rfl,.inl hS0,_,_,rfl,_,_,rfl,_,rfl,?_,?_,?_⟩
 ·split <;> split <;> lia
 ·rw[d8];split <;> split <;> lia
 refine gx (lo:=0) (fun i σ H2=>dP K H2 a (scr.map V.int)/\kJ lq T H2/\∃o1 o2 o3 o4 o5 o6 o7 o8 o9 o10 o11 o12 o13 o14 o15 o16,σ=[some (.ref a),o1,o2,o3,o4,o5,o6,o7,o8,o9,o10,o11,o12,o13,o14,o15,o16])
  ⟨hS0,hCT0,none,none,none,none,none,none,none,none,none,none,none,none,none,none,none,none,rfl⟩ (fun i σ H2 hi h=>?_) (fun σ H2 h=>q _)
 clear hS0 hCT0 gTot
 obtain ⟨hS2,hCT2,o1,o2,o3,o4,o5,o6,o7,o8,o9,o10,o11,o12,o13,o14,o15,o16,rfl⟩:=h
 have e0:(0:Int)+(i:Int)=(i:Int):=by lia
 rw[e0]
 refine ⟨_,rfl,_,rfl,a,scr,i,rfl,hS2,fun l x b hl hst=>?_⟩
 have s3:aH l b (n8 H2 l (.lst [.int x,.bl b])) (n8 H2 l (.lst [.int x,.bl b])):=aH.start f9 hst
 have hCT3:kJ lq T (n8 H2 l (.lst [.int x,.bl b])):=hCT2.same (i8.new hl)
 have hA:∀H',Kp l (n8 H2 l (.lst [.int x,.bl b])) H'->dP K H' a (scr.map V.int):=fun H' k=>by
  rcases hS2 with (h|⟨o,h⟩)|h
  ·exact .inl (.inl (k _ _ (v5 h hl) (i8.new hl _ _ h)))
  ·exact .inl (.inr ⟨o,k _ _ (v5 h hl) (i8.new hl _ _ h)⟩)
  ·exact .inr h
 show iM _ _ _ _ (n8 H2 l (.lst [.int x,.bl b]))
 generalize n8 H2 l (.lst [.int x,.bl b])=H3 at s3 hCT3 hA
 clear hS2 hCT2 hl hst
 obtain ⟨_,x3,hx3,ok3⟩:=id s3
 refine ⟨_,rfl,l,4,x3,b,rfl,hx3,ok3,by decide,by decide,fun y x1 hy ok1=>⟨_,_,rfl,rfl,?_⟩⟩
 have en:(1:Int)+(y:Int)=((1+y:Nat):Int):=by lia
 try dsimp only
 rw[en]
 have n1:1<=1+y:=by lia
 have n4:1+y<=4:=by lia
 generalize 1+y=n at n1 n4
 have s4:=s3.go ok1
 generalize n8 H3 l (.lst [.int x1,.bl b])=H4 at s4
 obtain ⟨_,x4,hx4,ok4⟩:=id s4
 refine ⟨_,rfl,_,rfl,l,n,x4,b,rfl,hx4,ok4,n1,n4,fun ua H5 ns s5' hua hU=>?_⟩
 have s5:=s4.trans s5'
 have nua:=s5.neL hua
 obtain ⟨_,x5,hx5,ok5⟩:=id s5
 refine ⟨_,rfl,_,rfl,l,n,x5,b,rfl,hx5,ok5,n1,n4,fun rv H6 rs s6' hrd hR=>?_⟩
 have s6:=s5.trans s6'
 have hua6:=s6'.1 _ _ nua hua
 have nl4:ns.length=n:=hU.len
 have rl4:=hR.len
 have okr:zl (DR rs):=⟨vF (by lia),su hR (by lia)⟩
 obtain ⟨_,x6,hx6,ok6⟩:=id s6
 refine ⟨_,rfl,l,7,x6,b,rfl,hx6,ok6,by decide,by decide,fun dr x7 hdr ok7=>?_⟩
 have s7:=s6.go ok7
 have k7:Kp l H6 (n8 H6 l (.lst [.int x7,.bl b])):=Kp.at
 try dsimp -proj only
 generalize n8 H6 l (.lst [.int x7,.bl b])=H7 at s7 k7
 have hua7:=k7 _ _ nua hua6
 have hrd7:=hrd.kp k7
 have k6:dr<=6:=by lia
 refine ⟨_,_,_,rfl,?_⟩
 try dsimp -proj only[bC]
 have s8:=s7
 have hua8:=hua7
 have hrd8:=hrd7
 generalize H7=H8 at s8 hua8 hrd8
 clear hua6 hua s6' hua7 hrd7 hrd s7 s6 s5 s4 k7
 have AS:∀(H':Hp),Kp l H8 H'->LM l H' n ns rs dr ua rv:=fun H' kk=>⟨Dt.mkI nua (kk _ _ nua hua8),hU,hrd8.kp kk,hR,n1,n4,k6,eW hR n1 n4 hU k6⟩
 refine ⟨_,rfl,_,rfl,_,rfl,ua,l,rv,n,dr,ns,rs,rfl,hua8,hU,hrd8,hR,n1,n4,k6,fun pd yd Td H9 g9 hTpd hTod hpd hBd=>?_⟩
 have s9:=s8.same g9
 have hTl:Td.length<128:=by rw[hTpd.length_eq];exact eW hR n1 n4 hU k6
 have hkd:=(nP hR n4 hU dr k6).1
 have hzl:∀z∈Td,z.1.length<=1000:=fun z hz=>by rw[(hkd z (hTpd.mem_iff.mp hz)).len];lia
 refine ⟨2,rfl,by decide,by decide,?_⟩
 refine gx (lo:=0) (n:=2) (fun j σ Hj=>i8 H9 Hj/\∃p8 p9,σ=[some (.ref a),some (.int i),some (.ref l),some (.int n),some (.ref ua),some rv,some (.int dr),some (.ref pd),p8,p9,o10,o11,o12,o13,o14,o15,o16])
  ⟨i8.refl _,o8,o9,rfl⟩ (fun j σ Hj hj h=>?_) (fun σ H10 h=>?_)
 ·obtain ⟨gj,p8,p9,rfl⟩:=h
  refine ⟨_,rfl,_,rfl,_,rfl,.inr ⟨l,ua,rv,n,dr,ns,rs,rfl,AS _ ((g9.trans gj).kp l),fun pf yf Tf Hk hfr gk hTpf hTof hpf hBf=>?_⟩⟩
  have eT:Tf=Td:=kC hTof hTod (by
   have:=(nP hR n4 hU dr k6).2.1
   unfold fN at this ⊢
   exact (hTpf.map _).nodup_iff.mpr this) (hTpf.trans hTpd.symm)
  subst eT
  refine ⟨_,rfl,_,rfl,pf,pd,yf,yd,Tf,rfl,hpf,(gj.trans gk) _ _ hpd,hBf,hBd.same (gj.trans gk),by lia,hzl,fun Hm gm=>⟨_,rfl,W0 ?_⟩⟩
  have npf:∀b u,H9 b=some u->b≠pf:=fun b u e z=>by rw[z] at e;have:=gj _ _ e;rw[hfr] at this;cases this
  refine ⟨_,rfl,.inl ⟨rfl,_,.of (gm _ _ hpf)⟩,(by show 0<=i0;decide),fun pe hpe=>?_⟩
  have ge:i8 Hm (n8 Hm pe (.tup [])):=i8.new hpe
  refine ⟨pf,yf,_,rfl,rfl,ge _ _ (gm _ _ hpf),?_,?_⟩
  ·rw[hBf.len];exact A3 hTl (by decide)
  ·exact ⟨fun b u e=>by rw[A1 (npf b u e)];exact ge _ _ (gm _ _ (gk _ _ (gj _ _ e))),_,_,rfl⟩
 obtain ⟨g10,p8,p9,rfl⟩:=h
 have s11:=s9.same g10
 have hua11:=(g9.trans g10) _ _ hua8
 have hrd11:=hrd8.kp ((g9.trans g10).kp l)
 clear hBd hpd hTpd hTod hTl hkd hzl
 generalize H10=Hc at s11 hua11 hrd11
 obtain ⟨_,x11,hx11,ok11⟩:=id s11
 refine ⟨_,rfl,_,rfl,l,ua,x11,b,ns,rfl,hx11,ok11,hua11,by lia,by lia,fun v1 He se tg1=>?_⟩
 have s12:=s11.trans se
 obtain ⟨_,x12,hx12,ok12⟩:=id s12
 refine ⟨_,rfl,l,x12,b,rfl,hx12,ok12,fun v2 Hf sf tg2=>⟨(by show 2<=i0;decide),fun pb hnpb=>?_⟩⟩
 have s13:=s12.trans sf
 have g14:i8 Hf (n8 Hf pb (.lst [v1,v2])):=i8.new hnpb
 have hpb:n8 Hf pb (.lst [v1,v2]) pb=some (.lst [v1,v2]):=f9
 have npb:pb≠l:=(s13.ne hnpb).symm
 have s14:=s13.same g14
 try dsimp only
 generalize n8 Hf pb (.lst [v1,v2])=Hg at g14 hpb s14
 obtain ⟨_,x14,hx14,ok14⟩:=id s14
 refine ⟨_,rfl,l,2,x14,b,rfl,hx14,ok14,by decide,by decide,fun y3 x15 hy3 ok15=>?_⟩
 have s15:=s14.go ok15
 have k15:Kp l Hg (n8 Hg l (.lst [.int x15,.bl b])):=Kp.at
 try dsimp only
 generalize n8 Hg l (.lst [.int x15,.bl b])=Hh at s15 k15
 have kf:=(g14.kp l).trans k15
 obtain ⟨vbe,hvbe,tgbe⟩:∃vbe,([v1,v2]:List V)[y3]?=some vbe/\Tg l Hh vbe:=by
  have hy':y3<2:=by lia
  match y3,hy' with
  | 0,_=>exact ⟨v1,rfl,(tg1.kp sf.1).kp kf⟩
  | 1,_=>exact ⟨v2,rfl,tg2.kp kf⟩
 refine ⟨pb,_,_,_,rfl,rfl,.of (k15 _ _ npb hpb),D7 hvbe,?_⟩
 have kh:=(se.1.trans sf.1).trans kf
 have hrd12:=hrd11.kp kh
 have hua12:=kh _ _ nua hua11
 obtain ⟨_,x16,hx16,ok16⟩:=id s15
 refine ⟨_,rfl,_,rfl,l,rv,x16,b,n,rs,rfl,hx16,ok16,hrd12,hR,n1,n4,fun vb Hi si tgb=>⟨_,_,rfl,?_⟩⟩
 have s17:=s15.trans si
 have tgbe17:=tgbe.kp si.1
 have tgb17:=tgb
 have hrd17:=hrd12.kp si.1
 have hua17:=si.1 _ _ nua hua12
 obtain ⟨_,x17,hx17,ok17⟩:=id s17
 refine ⟨_,rfl,l,x17,b,rfl,hx17,ok17,fun vno Hk dno sk hdno hwno=>?_⟩
 have s18:=s17.trans sk
 obtain ⟨dbe,hdbe,okbe⟩:=tgbe17.kp sk.1
 obtain ⟨db,hdb,okb⟩:=tgb17.kp sk.1
 have hrd18:=hrd17.kp sk.1
 have hua18:=sk.1 _ _ nua hua17
 have du18:Dt l Hk (DI ns) (.ref ua):=Dt.mkI nua hua18
 have shu:dB (DI ns):=kW (by lia)
 clear tgbe17 tgb17 tgbe tgb tg1 tg2 s11 s12 s13 s14 s15 s17 hua11 hua12 hua17 hrd11 hrd12 hrd17
 refine ⟨_,rfl,_,rfl,(by show 3<=i0;decide),fun t1 hnt1=>?_⟩
 have gt1:i8 Hk (n8 Hk t1 (.tup [vbe,rv,.int 1])):=i8.new hnt1
 have ht1:n8 Hk t1 (.tup [vbe,rv,.int 1]) t1=some (.tup [vbe,rv,.int 1]):=f9
 generalize n8 Hk t1 (.tup [vbe,rv,.int 1])=Jt1 at gt1 ht1
 refine ⟨_,rfl,_,rfl,(by show 3<=i0;decide),fun t2 hnt2=>?_⟩
 have gt2:i8 Jt1 (n8 Jt1 t2 (.tup [.ref ua,vb,.int 1])):=i8.new hnt2
 have ht2:n8 Jt1 t2 (.tup [.ref ua,vb,.int 1]) t2=some (.tup [.ref ua,vb,.int 1]):=f9
 generalize n8 Jt1 t2 (.tup [.ref ua,vb,.int 1])=Jt2 at gt2 ht2
 refine ⟨_,rfl,_,rfl,_,rfl,(by show 3<=i0;decide),fun t3 hnt3=>?_⟩
 have gt3:i8 Jt2 (n8 Jt2 t3 (.tup [.ref ua,rv,vno])):=i8.new hnt3
 have ht3:n8 Jt2 t3 (.tup [.ref ua,rv,vno]) t3=some (.tup [.ref ua,rv,vno]):=f9
 generalize n8 Jt2 t3 (.tup [.ref ua,rv,vno])=Jt3 at gt3 ht3
 refine ⟨_,rfl,_,rfl,_,rfl,(by show 3<=i0;decide),fun t4 hnt4=>?_⟩
 have gt4:i8 Jt3 (n8 Jt3 t4 (.tup [vbe,vb,vno])):=i8.new hnt4
 have ht4:n8 Jt3 t4 (.tup [vbe,vb,vno]) t4=some (.tup [vbe,vb,vno]):=f9
 generalize n8 Jt3 t4 (.tup [vbe,vb,vno])=Jt4 at gt4 ht4
 refine ⟨_,rfl,_,rfl,_,rfl,(by show 3<=i0;decide),fun t5 hnt5=>?_⟩
 have gt5:i8 Jt4 (n8 Jt4 t5 (.tup [.ref ua,vb,vno])):=i8.new hnt5
 have ht5:n8 Jt4 t5 (.tup [.ref ua,vb,vno]) t5=some (.tup [.ref ua,vb,vno]):=f9
 generalize n8 Jt4 t5 (.tup [.ref ua,vb,vno])=Jt5 at gt5 ht5
 refine ⟨(by show 5<=i0;decide),fun pr hnpr=>?_⟩
 have gr:i8 Jt5 (n8 Jt5 pr (.lst [.ref t1,.ref t2,.ref t3,.ref t4,.ref t5])):=i8.new hnpr
 have hpr:n8 Jt5 pr (.lst [.ref t1,.ref t2,.ref t3,.ref t4,.ref t5]) pr=some (.lst [.ref t1,.ref t2,.ref t3,.ref t4,.ref t5]):=f9
 generalize n8 Jt5 pr (.lst [.ref t1,.ref t2,.ref t3,.ref t4,.ref t5])=Hr at gr hpr
 have gk:i8 Hk Hr:=((((gt1.trans gt2).trans gt3).trans gt4).trans gt5).trans gr
 have sr:=s18.same gk
 have f1:=((((gt2.trans gt3).trans gt4).trans gt5).trans gr) _ _ ht1
 have f2:=(((gt3.trans gt4).trans gt5).trans gr) _ _ ht2
 have f3:=((gt4.trans gt5).trans gr) _ _ ht3
 have f4:=(gt5.trans gr) _ _ ht4
 have f5:=gr _ _ ht5
 have Dbe:=hdbe.kp (gk.kp l)
 have Db:=hdb.kp (gk.kp l)
 have Dno:=hdno.kp (gk.kp l)
 have Du:=du18.kp (gk.kp l)
 have Dr:=hrd18.kp (gk.kp l)
 have D1:Dt l Hr (.int 1) (.int 1):=Dt.int _ _ _
 have hCTr:kJ lq T Hr:=by
  obtain ⟨_,x3',hx3',_⟩:=id s3
  exact hCT3.kp hx3' sr.1
 obtain ⟨psr,hTr,_⟩:=id hCTr
 have npr:pr≠T:=fun e=>by rw[e,hTr] at hpr;cases hpr
 obtain ⟨_,xr,hlr,okr'⟩:=id sr
 have nTl:T≠l:=hCTr.ne hlr
 have all:∀v∈([.ref t1,.ref t2,.ref t3,.ref t4,.ref t5]:List V),∃t x y z d e g,v=.ref t/\Hr t=some (.tup [x,y,z])/\Dt l Hr d x/\dB d/\Dt l Hr e y/\zl e/\Dt l Hr g z/\(g=.int 1 ∨ Q8 0 6 g=false):=fun v hv=>by
  simp only[A0,y7,or_false] at hv
  rcases hv with e|e|e|e|e
  ·exact ⟨t1,_,_,_,dbe,DR rs,_,e,f1,Dbe,okbe.1,Dr,okr,D1,.inl rfl⟩
  ·exact ⟨t2,_,_,_,DI ns,db,_,e,f2,Du,shu,Db,okb,D1,.inl rfl⟩
  ·exact ⟨t3,_,_,_,DI ns,DR rs,_,e,f3,Du,shu,Dr,okr,Dno,.inr hwno⟩
  ·exact ⟨t4,_,_,_,dbe,db,_,e,f4,Dbe,okbe.1,Db,okb,Dno,.inr hwno⟩
  ·exact ⟨t5,_,_,_,DI ns,db,_,e,f5,Du,shu,Db,okb,Dno,.inr hwno⟩
 have hSr:=hA Hr sr.1
 refine ⟨pr,rfl,⟨_,.of hpr⟩,?_⟩
 refine wm (K:=K) (a:=pr) (xs:=[.ref t1,.ref t2,.ref t3,.ref t4,.ref t5]) (fun j σ Hj=>Kp T Hr Hj/\kJ lq T Hj/\∃o13 o14 o15 o16,σ=[some (.ref a),some (.int i),some (.ref l),some (.int n),some (.ref ua),some rv,some (.int dr),some (.ref pd),p8,p9,some vbe,some vb,some vno,o13,o14,o15,o16])
  ⟨Kp.refl _ _,hCTr,o13,o14,o15,o16,rfl⟩ (fun j σ Hj _ h=>.of (h.1 _ _ npr hpr)) (fun j z σ Hj hz h=>?_) (fun σ Hs h=>?_)
 ·obtain ⟨kj,hCTj,o13',o14',o15',o16',rfl⟩:=h
  obtain ⟨t,vx,vy,vz,d,e,g,rfl,ht,dx,sd,dy,oy,dz,hgz⟩:=all z (m8 hz)
  have ntT:t≠T:=fun e=>by rw[e,hTr] at ht;cases ht
  obtain ⟨psj,hTj,_⟩:=id hCTj
  obtain ⟨ow,hw,how⟩:=Cq d e g hgz
  refine ⟨t,_,rfl,.of (kj _ _ ntT ht),rfl,_,_,rfl,_,_,rfl,_,_,rfl,rfl,?_⟩
  have dxj:=lM hTr kj dx
  have dyj:=lM hTr kj dy
  have dzj:=lM hTr kj dz
  refine CF ?_
  refine Ax (fun σ' Hx=>i8 Hj Hx/\σ'=[some (.ref a),some (.int i),some (.ref l),some (.int n),some (.ref ua),some rv,some (.int dr),some (.ref pd),p8,p9,some vbe,some vb,some vno,some vx,some vy,some vz,some (Dm ow)]) (fun N hN=>?_) (fun σ' Hm h=>?_)
  ·refine ⟨_,rfl,vx,l,d,rfl,dxj,sd,fun H1 g1=>⟨_,rfl,?_⟩⟩
   cases hu:cm 20 d with
   | false =>
    have eo:=Fo hw hu
    refine V4 (hN _ H1 ⟨g1,?_⟩)
    rw[eo];rfl
   | true =>
    refine W0 ?_
    obtain ⟨ns',e2,l1,l4,hb',hp'⟩:=mf hu
    obtain ⟨ax,eax,_,hax⟩:=(show Dt l Hj (DI ns') vx by rw[<- e2];exact dxj).di
    subst eax
    refine ⟨_,rfl,ax,_,rfl,.inr (.of (g1 _ _ hax)),_,rfl,vy,l,e,((ns'.map V.int).length:Int),rfl,dyj.kp (g1.kp l),by rw[d8];lia,fun H2 g2=>⟨_,rfl,?_⟩⟩
    have el:((ns'.map V.int).length:Int)=(bt d:Int):=by rw[e2,cA,d8]
    rw[el]
    cases hru:bQ (bt d) e with
    | false =>
     have eo:=Fm hw hu hru
     refine V4 (hN _ H2 ⟨g1.trans g2,?_⟩)
     rw[eo];rfl
    | true =>
     refine W0 ?_
     refine ⟨_,rfl,vz,l,g,rfl,dzj.kp ((g1.trans g2).kp l),⟨_,rfl,?_⟩⟩
     rcases Fl hw hu hru with ⟨hg1,eo⟩|⟨hg0,eo⟩
     ·subst hg1
      have ez:=dzj
      unfold Dt at ez
      subst ez
      refine W0 ⟨_,rfl,rfl,_,rfl,GM rfl ?_⟩
      refine hN _ H2 ⟨g1.trans g2,?_⟩
      rw[eo];rfl
     ·cases hwi:Kl g with
      | false =>
       refine V4 (V4 (hN _ H2 ⟨g1.trans g2,?_⟩))
       rw[eo];rfl
      | true =>
       obtain ⟨k,ek⟩:∃k,g=.int k:=by
        cases g with
        | int k=>exact ⟨k,rfl⟩
        | _=>cases hwi
       subst ek
       have ez:=dzj
       unfold Dt at ez
       subst ez
       have hk1:¬ V.int k=V.int 1:=fun z=>by
        injection z with z
        subst z
        exact absurd hg0 (by decide)
       refine W0 ⟨_,rfl,rfl,_,rfl,?_⟩
       rw[decide_eq_false hk1]
       refine V4 (hN _ H2 ⟨g1.trans g2,?_⟩)
       rw[eo];rfl
  obtain ⟨gm,rfl⟩:=h
  have hCTm:=hCTj.same gm
  have hTm:=gm _ _ hTj
  refine fun Zc=>⟨hCTm,fun f0 c0 ctv Hl hkl hCTl hfn hf0 hc0 Hf frz=>?_⟩
  refine FS (k:=8) (N:=["_law_one","_law_two","_law_three"]) (ix:=[some 13,some 14,some 15]) (o:=ow) Zc frz ⟨c0,ctv,hf0,hc0⟩ rfl rfl rfl rfl (by decide +kernel) rfl how (fun _ _=>rfl) (fun c1 A' outer' s' E1 Q1 hr' hin hE=>⟨_,dh C.st8 hr' rfl FE (b8 (pv 0) (b8 (pv 1) (b8 (pv 2) f6))),?_⟩) (fun Ho g=>⟨_,rfl,CG ow how,_,rfl,GM rfl ?_⟩)
  ·have up:∀{dd:A7}{vv:V},Dt l Hj dd vv->Dt l _ dd vv:=fun {dd vv} hh=>(lM hTm hkl (hh.kp (gm.kp l))).kp (hin.kp l)
   exact ⟨_,rfl,_,rfl,_,rfl,HX (up dxj) sd (up dyj) oy (up dzj) hw hE⟩
  ·exact ⟨(kj.trans (gm.kp T)).trans (Kp.trans (show Kp T Hm Hl from hkl) ((frz.back g).kp T)),hCTl.same (frz.back g),_,_,_,_,rfl⟩
 obtain ⟨ks,hCTs,o13',o14',o15',o16',rfl⟩:=h
 exact ⟨Jq hTr ks hSr,hCTs,_,_,_,_,_,_,_,_,_,_,_,_,_,_,_,_,rfl⟩
end
end G
set_option maxHeartbeats 4000000
namespace G
open PySem PySem.Spec PyProof.Rows L2 Mt
noncomputable def fI (K:m6) (x:Str) (st:Stmt):Prop:=∃(f:Addr) (oc:b9) (od:Option Addr) (kV doc pm:b9) (an:Option Addr) (cdv ct:b9) (sl:Array (Option b9)),
 O6 K t8 x=some (some (.ref f))/\K.lookup f=some ⟨oc,od,.func (gK x x (eI st) (bf st) (w6 st) .none kV doc pm an cdv ct),sl⟩/\jH K cdv x=true/\cJ K (.ref f)=true
variable {K:m6}{x:Str}
theorem J6 {st:Stmt}{f:Addr}{oc:b9}{od:Option Addr}{kV doc pm:b9}{an:Option Addr}{cdv ct:b9}{sl:Array (Option b9)}
  (a:O6 K t8 x=some (some (.ref f))) (l:K.lookup f=some ⟨oc,od,.func (gK x x (eI st) (bf st) (w6 st) .none kV doc pm an cdv ct),sl⟩) (c:jH K cdv x=true) (k:cJ K (.ref f)=true):fI K x st :=
 ⟨f,oc,od,kV,doc,pm,an,cdv,ct,sl,a,l,c,k⟩
noncomputable def LH (K:m6) (x:Str) (st:Stmt) (T:Addr):Prop:=∃(f:Addr) (oc:b9) (od:Option Addr) (kV doc pm:b9) (an:Option Addr) (cc:Addr) (ct:b9) (sl:Array (Option b9)),
 O6 K t8 x=some (some (.ref f))/\K.lookup f=some ⟨oc,od,.func (gK x x (eI st) (bf st) (w6 st) .none kV doc pm an (.ref cc) ct),sl⟩/\jH K (.ref cc) x=true/\cJ K (.ref f)=true/\ke K cc T=true/\K.lookup T=none
variable {T:Addr}
theorem FY {st:Stmt}{f:Addr}{oc:b9}{od:Option Addr}{kV doc pm:b9}{an:Option Addr}{cc:Addr}{ct:b9}{sl:Array (Option b9)}
  (a:O6 K t8 x=some (some (.ref f))) (l:K.lookup f=some ⟨oc,od,.func (gK x x (eI st) (bf st) (w6 st) .none kV doc pm an (.ref cc) ct),sl⟩) (c:jH K (.ref cc) x=true) (k:cJ K (.ref f)=true) (t:ke K cc T=true) (n:K.lookup T=none):LH K x st T :=
 ⟨f,oc,od,kV,doc,pm,an,cc,ct,sl,a,l,c,k,t,n⟩
variable {w:u9}{mg:Str->Option b9}{h:Heap}
theorem L5 {P:j7}{base:Heap}{st:Stmt}{ps:List Str}{k:Nat}{sp:Sp} (X:K.In h) (G:h.Ns t8 mg) (H:fI K x st)
  (hb:∀(f:Addr) (fd:C5),cH K x x st f fd->jY K fd ps []) (ok:∀(f:Addr) (fd:C5),cH K x x st f fd->O5 P w K mg base dQ k f fd ps sp):W5 P w K mg base k x ps sp:=by
 obtain ⟨f,oc,od,kV,doc,pm,an,cdv,ct,sl,a,l,c,kp⟩:=H
 have F:=yB (st:=st) l c kp
 exact ⟨f,_,ai X G a,kp,hb _ _ F,ok _ _ F⟩
theorem jD {P:j7}{base:Heap}{st:Stmt}{ps:List Str}{k:Nat}{sp:Sp} (X:K.In h) (G:h.Ns t8 mg) (H:fI K x st)
  (hb:∀(f:Addr) (fd:C5),cH K x x st f fd->jY K fd ps []) (ok:∀(f:Addr) (fd:C5),cH K x x st f fd->O5 P w K mg base (lN P w) k f fd ps sp):iq P w K mg base k x ps sp:=by
 obtain ⟨f,oc,od,kV,doc,pm,an,cdv,ct,sl,a,l,c,kp⟩:=H
 have F:=yB (st:=st) l c kp
 exact ⟨f,_,ai X G a,kp,hb _ _ F,ok _ _ F⟩
noncomputable def wt (K:m6) (B:Addr):List Addr->Bool
 | []=>true
 | C::cs=>Jy K C vE "ValueError.__new__"&&X7 K (.ref C) "__getattribute__" == some (some (.builtin "BaseException.__getattribute__"))&&X7 K (.ref C) "__getattr__" == some none&&mZ K (.ref C) (.type "BaseException") == some true&&(xb K C).isSome&&X7 K (.ref C) "__class__" == some (some (.builtin "object.__class__")) &&
   Jx K C (.type "object") == some true&&xx K (.ref C) (.ref B) == some true&&cI K (.ref C) (.type "ValueError") == some true&&wt K B cs
noncomputable def Lq (K:m6) (B:Addr):Bool:=lT K (.builtin "object.__class__") "__get__" == some (some (.builtin "getset_descriptor.__get__"))&&Bw K (.builtin "object.__class__") == some true&&mZ K (.ref B) (.type "BaseException") == some true
noncomputable def errC (K:m6) (cs:List Addr):Bool:=(J9 10).all fun i=>(J9 10).all fun j=>cI K (.ref (cs.getD i 0)) (.ref (cs.getD j 0)) == some (decide (i=j))
theorem wq {K:m6}{B:Addr}:∀{cs:List Addr}{i:Nat},wt K B cs=true->i<cs.length->wt K B [cs.getD i 0]=true
 | C::cs,0,h,_=>by
  unfold wt at h
  rw[y6] at h
  unfold wt
  rw[y6]
  exact ⟨h.1,rfl⟩
 | C::cs,i+1,h,hi=>by
  unfold wt at h
  rw[y6] at h
  have:=wq (cs:=cs) (i:=i) h.2 (by simpa using hi)
  simpa using this
theorem Gb {a0 a1 a2 a3 a4 a5 a6 a7 a8 a9 B:Addr} (X:K.In h) (G:h.Ns t8 mg)
  (e0:O6 K t8 "NoUrn"=some (some (.ref a0))) (e1:O6 K t8 "NoRule"=some (some (.ref a1))) (e2:O6 K t8 "NoKind"=some (some (.ref a2))) (e3:O6 K t8 "NoBall"=some (some (.ref a3))) (e4:O6 K t8 "NoDraws"=some (some (.ref a4)))
  (e5:O6 K t8 "NoNumber"=some (some (.ref a5))) (e6:O6 K t8 "NotEven"=some (some (.ref a6))) (e7:O6 K t8 "NoCounts"=some (some (.ref a7))) (e8:O6 K t8 "NotAlike"=some (some (.ref a8))) (e9:O6 K t8 "BadNote"=some (some (.ref a9)))
  (eb:O6 K t8 "UrnError"=some (some (.ref B))) (hA:wt K B [a0,a1,a2,a3,a4,a5,a6,a7,a8,a9]=true) (hB:Lq K B=true) (hC:errC K [a0,a1,a2,a3,a4,a5,a6,a7,a8,a9]=true):
  Bu K mg (fun i=>[a0,a1,a2,a3,a4,a5,a6,a7,a8,a9].getD i 0) B:=by
 unfold Lq at hB
 simp only[y6,beq_iff_eq] at hB
 obtain ⟨⟨b1,b2⟩,b3⟩:=hB
 have A:∀i,i<10->_:=fun i hi=>wq (i:=i) hA hi
 have A':∀i,i<10->((((((((Jy K ([a0,a1,a2,a3,a4,a5,a6,a7,a8,a9].getD i 0) vE "ValueError.__new__"=true/\X7 K (.ref ([a0,a1,a2,a3,a4,a5,a6,a7,a8,a9].getD i 0)) "__getattribute__"=some (some (.builtin "BaseException.__getattribute__")))/\X7 K (.ref ([a0,a1,a2,a3,a4,a5,a6,a7,a8,a9].getD i 0)) "__getattr__"=some none)/\mZ K (.ref ([a0,a1,a2,a3,a4,a5,a6,a7,a8,a9].getD i 0)) (.type "BaseException")=some true)/\(xb K ([a0,a1,a2,a3,a4,a5,a6,a7,a8,a9].getD i 0)).isSome=true) /\
   X7 K (.ref ([a0,a1,a2,a3,a4,a5,a6,a7,a8,a9].getD i 0)) "__class__"=some (some (.builtin "object.__class__")))/\Jx K ([a0,a1,a2,a3,a4,a5,a6,a7,a8,a9].getD i 0) (.type "object")=some true)/\xx K (.ref ([a0,a1,a2,a3,a4,a5,a6,a7,a8,a9].getD i 0)) (.ref B)=some true) /\
   cI K (.ref ([a0,a1,a2,a3,a4,a5,a6,a7,a8,a9].getD i 0)) (.type "ValueError")=some true):=fun i hi=>by
  have z:=A i hi
  unfold wt at z
  rw[y6] at z
  have z1:=z.1
  simp only[y6,beq_iff_eq] at z1
  exact z1
 exact ⟨ai X G e0,ai X G e1,ai X G e2,ai X G e3,ai X G e4,ai X G e5,ai X G e6,ai X G e7,ai X G e8,ai X G e9,ai X G eb,
  fun i hi=>(A' i hi).1.1.1.1.1.1.1.1,fun i hi=>⟨(A' i hi).1.1.1.1.1.1.1.2,(A' i hi).1.1.1.1.1.1.2,(A' i hi).1.1.1.1.1.2,(A' i hi).1.1.1.1.2,(A' i hi).1.1.1.2,b1,b2,(A' i hi).1.1.2⟩,fun i hi=>(A' i hi).1.2,b3,
  fun i j hi hj=>by
   have z:=List.all_eq_true.mp (List.all_eq_true.mp hC i (List.mem_range.mpr hi)) j (List.mem_range.mpr hj)
   exact beq_iff_eq.mp z,fun i hi=>(A' i hi).2⟩
theorem Jo {l:JZ}{fa Bs:Addr}{c:Nat->Addr} (X:K.In h) (G:h.Ns t8 mg) (hfa:mg "law"=some (.ref fa)) (R:Bu K mg c Bs)
  (h1:fI K "is_number" jg) (h2:fI K "is_whole" ku) (h3:fI K "are_wholes" gY) (h4:fI K "need_number" fQ) (h5:fI K "is_urn_up_to" fm) (h6:fI K "is_urn" pW) (h7:fI K "is_rule" mv) (h8:fI K "need_urn" kq) (h9:fI K "need_rule" jf) (h10:fI K "need_urn_and_rule" CN) (h11:fI K "greatest_divisor" Ij) (h12:fI K "fraction" ky) (h13:fI K "times" tT) (h14:fI K "plus" xU) (h15:fI K "put_in" pT) (h16:fI K "own_urn" mn) (h17:fI K "urns_behind_one" CL) (h18:fI K "next_chances" tV) (h19:fI K "stands" Ii) (h20:fI K "_law_cell_at" mw) (h21:fI K "_law_state" tU) (h22:fI K "_law_take" xS) (h23:fI K "_law_refused" ml) (h24:fI K "_law_urn_of" xV) (h25:fI K "_law_rule" tW) (h26:fI K "_law_whole" tS) (h27:fI K "_law_is_urn" mq) (h28:fI K "_law_is_rule" kr) (h29:fI K "_law_bent_urn" Il) (h30:fI K "_law_bent_rule" Im) (h31:fI K "_law_odd" CM) (h32:fI K "_law_number" pU) (h33:fI K "_law_behind" CQ) (h34:fI K "_law_fraction" CP) (h35:fI K "_law_plus" tX) (h36:fI K "_law_by" Ik) (h37:fI K "_law_by_counts" Io) (h38:fI K "_law_due" CO) (h39:fI K "_law_same" gX) (h40:fI K "_law_same" gX) (h41:fI K "_law_same" gX) (h42:fI K "_law_same" gX)
  (hlaw:LH K "law" pV T)
  (z1:O6 K t8 "isinstance"=some none) (z2:O6 K t8 "bool"=some none) (z3:O6 K t8 "int"=some none) (z4:O6 K t8 "tuple"=some none) (z5:O6 K t8 "list"=some none) (z6:O6 K t8 "all"=some none) (z7:O6 K t8 "sum"=some none) (z8:O6 K t8 "len"=some none) (z9:O6 K t8 "range"=some none) (z10:O6 K t8 "max"=some none) (z11:O6 K t8 "min"=some none) (z12:O6 K t8 "abs"=some none) (z13:O6 K t8 "zip"=some none) (z14:O6 K t8 "any"=some none) (z15:O6 K t8 "enumerate"=some none) (z16:O6 K t8 "sorted"=some none) (zV:O6 K t8 "ValueError"=some none)
  {t1:Tok} (m1:O6 K t8 "MOST_KINDS"=some (some (.int 4 t1))) {t2:Tok} (m2:O6 K t8 "MOST_BALLS"=some (some (.int 20 t2))) {t3:Tok} (m3:O6 K t8 "MOST_PUT_IN"=some (some (.int 5 t3))) {t4:Tok} (m4:O6 K t8 "MOST_STAND_DRAWS"=some (some (.int 6 t4))):
  ∃fd:C5,(∀(s:d9) (v:b9),tF s fd ⟨[v],[]⟩ [("_law_script",v)])/\(K.lookup T=none/\∃cc,ke K cc T=true)/\∀base:Heap,K.In base->base.Ns t8 mg->base.BuiltinsAt mg T->O5 l.prog w K mg base dQ 11 fa fd ["_law_script"] (yX K T):=by
 obtain ⟨f,oc,od,kV,doc,pm,an,cc,ct,sl,a,lk,c',kp,hcd,hTn⟩:=hlaw
 have e:=hfa.symm.trans (ai X G a)
 cases e
 have F:=yB (st:=pV) lk c' kp
 have B:Bt mg:=⟨K6 X G z1,K6 X G z2,K6 X G z3,K6 X G z4,K6 X G z5,K6 X G z6,K6 X G z7,K6 X G z8,K6 X G z9,K6 X G z10,K6 X G z11,K6 X G z12,K6 X G z13⟩
 have B2:Bt2 mg:=⟨K6 X G z14⟩
 have B3:Mf mg:=⟨K6 X G z15,K6 X G z16⟩
 have C:Ct mg:=⟨⟨_,ai X G m1⟩,⟨_,ai X G m2⟩,⟨_,ai X G m3⟩⟩
 have C2:Ct2 mg:=⟨⟨_,ai X G m4⟩⟩
 have hVE:=K6 X G zV
 refine ⟨gK "law" "law" (eI pV) (bf pV) (w6 pV) .none kV doc pm an (.ref cc) ct,fun s v=>.of_eq rfl,⟨hTn,cc,hcd⟩,fun base hKb _ hbm=>?_⟩
 have c_is_number:W5 l.prog w K mg base 0 "is_number" ["thing"] gU:=L5 X G h1 (fun f fd F=>F.binds (ps:=["thing"]) fun _ _ _ _ _ _ us hl=>match us,hl with | [_],_=>rfl) (fun f fd F=>uk F B)
 have c_is_whole:W5 l.prog w K mg base 1 "is_whole" ["thing","low","high"] fL:=L5 X G h2 (fun f fd F=>F.binds (ps:=["thing","low","high"]) fun _ _ _ _ _ _ us hl=>match us,hl with | [_,_,_],_=>rfl) (fun f fd F=>vX F c_is_number)
 have c_are_wholes:W5 l.prog w K mg base 2 "are_wholes" ["thing","low","high"] df:=L5 X G h3 (fun f fd F=>F.binds (ps:=["thing","low","high"]) fun _ _ _ _ _ _ us hl=>match us,hl with | [_,_,_],_=>rfl) (fun f fd F=>rM F B c_is_whole)
 have c_need_number:iq l.prog w K mg base 2 "need_number" ["thing","low","high"] (cu c):=jD X G h4 (fun f fd F=>F.binds (ps:=["thing","low","high"]) fun _ _ _ _ _ _ us hl=>match us,hl with | [_,_,_],_=>rfl) (fun f fd F=>qm F R c_is_whole)
 have c_is_urn_up_to:W5 l.prog w K mg base 3 "is_urn_up_to" ["thing","most"] dN:=L5 X G h5 (fun f fd F=>F.binds (ps:=["thing","most"]) fun _ _ _ _ _ _ us hl=>match us,hl with | [_,_],_=>rfl) (fun f fd F=>og F B C c_are_wholes)
 have c_is_urn:W5 l.prog w K mg base 4 "is_urn" ["thing"] eQ:=L5 X G h6 (fun f fd F=>F.binds (ps:=["thing"]) fun _ _ _ _ _ _ us hl=>match us,hl with | [_],_=>rfl) (fun f fd F=>AJ F C c_is_urn_up_to)
 have c_is_rule:iq l.prog w K mg base 3 "is_rule" ["kinds","thing"] (km c):=jD X G h7 (fun f fd F=>F.binds (ps:=["kinds","thing"]) fun _ _ _ _ _ _ us hl=>match us,hl with | [_,_],_=>rfl) (fun f fd F=>yi F B C c_are_wholes c_need_number)
 have c_need_urn:iq l.prog w K mg base 5 "need_urn" ["thing"] (ja c):=jD X G h8 (fun f fd F=>F.binds (ps:=["thing"]) fun _ _ _ _ _ _ us hl=>match us,hl with | [_],_=>rfl) (fun f fd F=>vV F R c_is_urn)
 have c_need_rule:iq l.prog w K mg base 4 "need_rule" ["kinds","thing"] (gT c):=jD X G h9 (fun f fd F=>F.binds (ps:=["kinds","thing"]) fun _ _ _ _ _ _ us hl=>match us,hl with | [_,_],_=>rfl) (fun f fd F=>uj F R c_is_rule)
 have c_need_urn_and_rule:iq l.prog w K mg base 6 "need_urn_and_rule" ["urn","rule"] (xK c):=jD X G h10 (fun f fd F=>F.binds (ps:=["urn","rule"]) fun _ _ _ _ _ _ us hl=>match us,hl with | [_,_],_=>rfl) (fun f fd F=>IL F B c_need_urn c_need_rule)
 have c_greatest_divisor:W5 l.prog w K mg base 1 "greatest_divisor" ["one","other"] CA:=L5 X G h11 (fun f fd F=>F.binds (ps:=["one","other"]) fun _ _ _ _ _ _ us hl=>match us,hl with | [_,_],_=>rfl) (fun f fd F=>Le F B)
 have c_fraction:W5 l.prog w K mg base 2 "fraction" ["top","bottom"] dA:=L5 X G h12 (fun f fd F=>F.binds (ps:=["top","bottom"]) fun _ _ _ _ _ _ us hl=>match us,hl with | [_,_],_=>rfl) (fun f fd F=>vY F c_greatest_divisor)
 have c_times:W5 l.prog w K mg base 3 "times" ["one","other"] gh:=L5 X G h13 (fun f fd F=>F.binds (ps:=["one","other"]) fun _ _ _ _ _ _ us hl=>match us,hl with | [_,_],_=>rfl) (fun f fd F=>Ds F c_fraction)
 have c_plus:W5 l.prog w K mg base 3 "plus" ["one","other"] gS:=L5 X G h14 (fun f fd F=>F.binds (ps:=["one","other"]) fun _ _ _ _ _ _ us hl=>match us,hl with | [_,_],_=>rfl) (fun f fd F=>FN F c_fraction)
 have c_put_in:W5 l.prog w K mg base 1 "put_in" ["urn","rule","kind"] mh:=L5 X G h15 (fun f fd F=>F.binds (ps:=["urn","rule","kind"]) fun _ _ _ _ _ _ us hl=>match us,hl with | [_,_,_],_=>rfl) (fun f fd F=>AH F B)
 have c_own_urn:W5 l.prog w K mg base 1 "own_urn" ["urn"] kl:=L5 X G h16 (fun f fd F=>F.binds (ps:=["urn"]) fun _ _ _ _ _ _ us hl=>match us,hl with | [_],_=>rfl) (fun f fd F=>yg F B)
 have c_urns_behind_one:W5 l.prog w K mg base 2 "urns_behind_one" ["urn","rule"] xG:=L5 X G h17 (fun f fd F=>F.binds (ps:=["urn","rule"]) fun _ _ _ _ _ _ us hl=>match us,hl with | [_,_],_=>rfl) (fun f fd F=>IJ F B3 c_put_in)
 have c_next_chances:W5 l.prog w K mg base 4 "next_chances" ["chances","rule"] pI:=L5 X G h18 (fun f fd F=>F.binds (ps:=["chances","rule"]) fun _ _ _ _ _ _ us hl=>match us,hl with | [_,_],_=>rfl) (fun f fd F=>DA F B c_urns_behind_one c_times c_fraction c_plus)
 have c_stands:iq l.prog w K mg base 7 "stands" ["urn","rule","draws"] (vC c):=jD X G h19 (fun f fd F=>F.binds (ps:=["urn","rule","draws"]) fun _ _ _ _ _ _ us hl=>match us,hl with | [_,_,_],_=>rfl) (fun f fd F=>Ld F B B3 C2 c_need_urn_and_rule c_need_number c_own_urn c_next_chances)
 have c__law_cell_at:W5 l.prog w K mg base 1 "_law_cell_at" ["_law_script","_law_k"] (ko K):=L5 X G h20 (fun f fd F=>F.binds (ps:=["_law_script","_law_k"]) fun _ _ _ _ _ _ us hl=>match us,hl with | [_,_],_=>rfl) (fun f fd F=>yj F B)
 have c__law_state:W5 l.prog w K mg base 2 "_law_state" ["_law_script","_law_k"] (pC K):=L5 X G h21 (fun f fd F=>F.binds (ps:=["_law_script","_law_k"]) fun _ _ _ _ _ _ us hl=>match us,hl with | [_,_],_=>rfl) (fun f fd F=>Dv F c__law_cell_at)
 have c__law_take:W5 l.prog w K mg base 1 "_law_take" ["_law_state_here","_law_many"] bI:=L5 X G h22 (fun f fd F=>F.binds (ps:=["_law_state_here","_law_many"]) fun _ _ _ _ _ _ us hl=>match us,hl with | [_,_],_=>rfl) (fun f fd F=>FM F )
 have c__law_refused:W5 l.prog w K mg base 10 "_law_refused" ["_law_call"] (gR l.prog w K mg base 9 c):=L5 X G h23 (fun f fd F=>F.binds (ps:=["_law_call"]) fun _ _ _ _ _ _ us hl=>match us,hl with | [_],_=>rfl) (fun f fd F=>ye F B R hVE)
 have c__law_urn_of:W5 l.prog w K mg base 2 "_law_urn_of" ["_law_state_here","_law_kinds"] tL:=L5 X G h24 (fun f fd F=>F.binds (ps:=["_law_state_here","_law_kinds"]) fun _ _ _ _ _ _ us hl=>match us,hl with | [_,_],_=>rfl) (fun f fd F=>FO F B B2 c__law_take)
 have c__law_rule:W5 l.prog w K mg base 2 "_law_rule" ["_law_state_here","_law_kinds"] pJ:=L5 X G h25 (fun f fd F=>F.binds (ps:=["_law_state_here","_law_kinds"]) fun _ _ _ _ _ _ us hl=>match us,hl with | [_,_],_=>rfl) (fun f fd F=>DB F B c__law_take)
 have c__law_whole:W5 l.prog w K mg base 1 "_law_whole" ["_law_thing"] eP:=L5 X G h26 (fun f fd F=>F.binds (ps:=["_law_thing"]) fun _ _ _ _ _ _ us hl=>match us,hl with | [_],_=>rfl) (fun f fd F=>Dq F B)
 have c__law_is_urn:W5 l.prog w K mg base 2 "_law_is_urn" ["_law_thing"] eQ:=L5 X G h27 (fun f fd F=>F.binds (ps:=["_law_thing"]) fun _ _ _ _ _ _ us hl=>match us,hl with | [_],_=>rfl) (fun f fd F=>yh F B B2 c__law_whole)
 have c__law_is_rule:W5 l.prog w K mg base 2 "_law_is_rule" ["_law_kinds","_law_thing"] jb:=L5 X G h28 (fun f fd F=>F.binds (ps:=["_law_kinds","_law_thing"]) fun _ _ _ _ _ _ us hl=>match us,hl with | [_,_],_=>rfl) (fun f fd F=>vW F B c__law_whole)
 have c__law_bent_urn:W5 l.prog w K mg base 2 "_law_bent_urn" ["_law_state_here","_law_urn"] CB:=L5 X G h29 (fun f fd F=>F.binds (ps:=["_law_state_here","_law_urn"]) fun _ _ _ _ _ _ us hl=>match us,hl with | [_,_],_=>rfl) (fun f fd F=>Lg F B c__law_take)
 have c__law_bent_rule:W5 l.prog w K mg base 2 "_law_bent_rule" ["_law_state_here","_law_rule_here"] CC:=L5 X G h30 (fun f fd F=>F.binds (ps:=["_law_state_here","_law_rule_here"]) fun _ _ _ _ _ _ us hl=>match us,hl with | [_,_],_=>rfl) (fun f fd F=>Lh F B c__law_take)
 have c__law_odd:W5 l.prog w K mg base 2 "_law_odd" ["_law_state_here"] xJ:=L5 X G h31 (fun f fd F=>F.binds (ps:=["_law_state_here"]) fun _ _ _ _ _ _ us hl=>match us,hl with | [_],_=>rfl) (fun f fd F=>IK F c__law_take)
 have c__law_number:W5 l.prog w K mg base 2 "_law_number" ["_law_state_here","_law_most"] mi:=L5 X G h32 (fun f fd F=>F.binds (ps:=["_law_state_here","_law_most"]) fun _ _ _ _ _ _ us hl=>match us,hl with | [_,_],_=>rfl) (fun f fd F=>AI F c__law_take)
 have c__law_behind:W5 l.prog w K mg base 1 "_law_behind" ["_law_urn","_law_rule_here","_law_counts"] tM:=L5 X G h33 (fun f fd F=>F.binds (ps:=["_law_urn","_law_rule_here","_law_counts"]) fun _ _ _ _ _ _ us hl=>match us,hl with | [_,_,_],_=>rfl) (fun f fd F=>IR F B)
 have c__law_fraction:W5 l.prog w K mg base 1 "_law_fraction" ["_law_top","_law_bottom"] pK:=L5 X G h34 (fun f fd F=>F.binds (ps:=["_law_top","_law_bottom"]) fun _ _ _ _ _ _ us hl=>match us,hl with | [_,_],_=>rfl) (fun f fd F=>IQ F B)
 have c__law_plus:W5 l.prog w K mg base 2 "_law_plus" ["_law_one","_law_other"] gS:=L5 X G h35 (fun f fd F=>F.binds (ps:=["_law_one","_law_other"]) fun _ _ _ _ _ _ us hl=>match us,hl with | [_,_],_=>rfl) (fun f fd F=>DD F c__law_fraction)
 have c__law_by:W5 l.prog w K mg base 2 "_law_by" ["_law_one","_law_other"] gh:=L5 X G h36 (fun f fd F=>F.binds (ps:=["_law_one","_law_other"]) fun _ _ _ _ _ _ us hl=>match us,hl with | [_,_],_=>rfl) (fun f fd F=>Lf F c__law_fraction)
 have c__law_by_counts:W5 l.prog w K mg base 4 "_law_by_counts" ["_law_urn","_law_rule_here","_law_draws"] CD:=L5 X G h37 (fun f fd F=>F.binds (ps:=["_law_urn","_law_rule_here","_law_draws"]) fun _ _ _ _ _ _ us hl=>match us,hl with | [_,_,_],_=>rfl) (fun f fd F=>Li F B (c__law_behind.up (by decide)) (c__law_by.up (by decide)) (c__law_fraction.up (by decide)) (c__law_plus.up (by decide)))
 have c__law_due:W5 l.prog w K mg base 5 "_law_due" ["_law_urn","_law_rule_here","_law_draws"] xM:=L5 X G h38 (fun f fd F=>F.binds (ps:=["_law_urn","_law_rule_here","_law_draws"]) fun _ _ _ _ _ _ us hl=>match us,hl with | [_,_,_],_=>rfl) (fun f fd F=>IP F B3 c__law_by_counts (c__law_behind.up (by decide)) (c__law_plus.up (by decide)))
 have c__law_same:W5 l.prog w K mg base 1 "_law_same" ["_law_found","_law_due_here"] pH:=L5 X G h39 (fun f fd F=>F.binds (ps:=["_law_found","_law_due_here"]) fun _ _ _ _ _ _ us hl=>match us,hl with | [_,_],_=>rfl) (fun f fd F=>Dz F B)
 have c__law_same_0:=c__law_same
 have c__law_same:W5 l.prog w K mg base 2 "_law_same" ["_law_found","_law_due_here"] pG:=L5 X G h40 (fun f fd F=>F.binds (ps:=["_law_found","_law_due_here"]) fun _ _ _ _ _ _ us hl=>match us,hl with | [_,_],_=>rfl) (fun f fd F=>Dy F B c__law_same)
 have c__law_same_1:=c__law_same
 have c__law_same:W5 l.prog w K mg base 3 "_law_same" ["_law_found","_law_due_here"] pF:=L5 X G h41 (fun f fd F=>F.binds (ps:=["_law_found","_law_due_here"]) fun _ _ _ _ _ _ us hl=>match us,hl with | [_,_],_=>rfl) (fun f fd F=>Dx F B c__law_same)
 have c__law_same_2:=c__law_same
 have c__law_same:W5 l.prog w K mg base 4 "_law_same" ["_law_found","_law_due_here"] pE:=L5 X G h42 (fun f fd F=>F.binds (ps:=["_law_found","_law_due_here"]) fun _ _ _ _ _ _ us hl=>match us,hl with | [_,_],_=>rfl) (fun f fd F=>Dw F B c__law_same)
 exact IM F B ⟨(c__law_state.up (by decide)),(c__law_take.up (by decide)),(c__law_urn_of.up (by decide)),(c__law_rule.up (by decide)),(c__law_bent_urn.up (by decide)),(c__law_bent_rule.up (by decide)),(c__law_odd.up (by decide)),(c__law_number.up (by decide)),(c__law_same.up (by decide)),(c__law_due.up (by decide)),(c__law_is_urn.up (by decide)),(c__law_is_rule.up (by decide)),(c__law_whole.up (by decide)),(c_stands.up (by decide)),(c_stands.up (by decide)),c__law_refused⟩ ⟨cc,rfl,hcd⟩ hKb hbm
theorem walk {l:JZ}{q:j7}{loose:List Str}{XP:(Str->Option b9)->Heap->Prop}{YP:u9->Heap->Prop}{d:DefRec}{K:Params->m6}(hn:l.most=some 63) (hdf:d.params.defaults=[])
  (hY:∀(w:u9) (h:Heap),YP w h->(K w.params).In h) (hT:∀(w:u9) (h:Heap),YP w h->∀t∈[T],h.get? t=some (EY #[]))
  (F:∀(w:u9) (mg:Str->Option b9) (fa:Addr) (h:Heap),(K w.params).In h->h.Ns t8 mg->mg d.name=some (.ref fa) ->
   ∃fd:C5,(∀(s:d9) (u:b9),tF s fd ⟨[u],[]⟩ [("_law_script",u)])/\((K w.params).lookup T=none/\∃c,ke (K w.params) c T=true)/\∀base:Heap,(K w.params).In base->base.Ns t8 mg->base.BuiltinsAt mg T->O5 l.prog w (K w.params) mg base dQ 11 fa fd ["_law_script"] (yX (K w.params) T)):
  W.WalkO q loose XP YP l.row.toRowW d [] (fun f vs=>BV f vs):=
 L2.Cr (n:=63) (k:=11) (x:="_law_script") (ts:=[T]) (sp:=fun w=>yX (K w.params) T) hn (by decide) hdf ⟨rfl,by decide,by decide⟩ hY hT
  (fun w mg fa h kx ns hm=>by
   obtain ⟨fd,b1,b2,b3⟩:=F w mg fa h kx ns hm
   exact ⟨fd,b1,fun t ht=>by rw[List.mem_singleton.mp ht];exact b2,fun base k1 k2 k3=>b3 base k1 k2 (k3 T (List.mem_singleton.mpr rfl))⟩)
  (fun _ _ a ns hl hO hS=>⟨a,ns,rfl,hS,hl,⟨#[],hO.2 T (List.mem_singleton.mpr rfl),trivial,fun pos v e=>by cases e⟩,fun _=>rfl⟩)
end G
noncomputable def PySem.Challenge.cw_growurns_k21_stands_holds.tw15604704034516426299 : Unit:=()
noncomputable def PySem.Challenge.cw_growurns_k21_stands_holds.tw9703994950209955471 : Unit:=()
noncomputable def PySem.Challenge.cw_growurns_k21_stands_holds.tw14384872609774356076 : Unit:=()
noncomputable def PySem.Challenge.cw_growurns_k21_stands_holds.tw11709910325442533953 : Unit:=()
noncomputable def PySem.Challenge.cw_growurns_k21_stands_holds.tw925842305605527076 : Unit:=()
noncomputable def PySem.Challenge.cw_growurns_k21_stands_holds.tw3215197578274150015 : Unit:=()
noncomputable def PySem.Challenge.cw_growurns_k21_stands_holds.tw3282909023372697681 : Unit:=()
noncomputable def PySem.Challenge.cw_growurns_k21_stands_holds.tw1092773497134409625 : Unit:=()
noncomputable def PySem.Challenge.cw_growurns_k21_stands_holds.tw5836168856148089677 : Unit:=()
noncomputable def PySem.Challenge.cw_growurns_k21_stands_holds.tw10326243275226902078 : Unit:=()
noncomputable def PySem.Challenge.cw_growurns_k21_stands_holds.tw5730111406486992792 : Unit:=()
noncomputable def PySem.Challenge.cw_growurns_k21_stands_holds.tw4535638429190418783 : Unit:=()
noncomputable def PySem.Challenge.cw_growurns_k21_stands_holds.tw14410793697604817986 : Unit:=()
noncomputable def PySem.Challenge.cw_growurns_k21_stands_holds.tw15371078542091822841 : Unit:=()
noncomputable def PySem.Challenge.cw_growurns_k21_stands_holds.tw18089222958272757634 : Unit:=()
noncomputable def PySem.Challenge.cw_growurns_k21_stands_holds.tw9010811608877771616 : Unit:=()
noncomputable def PySem.Challenge.cw_growurns_k21_stands_holds.tw515529363083992505 : Unit:=()
noncomputable def PySem.Challenge.cw_growurns_k21_stands_holds.tw17025260599995277659 : Unit:=()
noncomputable def PySem.Challenge.cw_growurns_k21_stands_holds.tw4297836067643626354 : Unit:=()
noncomputable def PySem.Challenge.cw_growurns_k21_stands_holds.tw14887561460553141183 : Unit:=()
noncomputable def PySem.Challenge.cw_growurns_k21_stands_holds.tw4093446925649463895 : Unit:=()
noncomputable def PySem.Challenge.cw_growurns_k21_stands_holds.tw10665183048554753671 : Unit:=()
noncomputable def PySem.Challenge.cw_growurns_k21_stands_holds.tw8986886637159551958 : Unit:=()
noncomputable def PySem.Challenge.cw_growurns_k21_stands_holds.tw7467967038810375407 : Unit:=()
noncomputable def PySem.Challenge.cw_growurns_k21_stands_holds.tw11537200131327103509 : Unit:=()
noncomputable def PySem.Challenge.cw_growurns_k21_stands_holds.tw9851378723947204046 : Unit:=()
noncomputable def PySem.Challenge.cw_growurns_k21_stands_holds.tw1813140483830943598 : Unit:=()
noncomputable def PySem.Challenge.cw_growurns_k21_stands_holds.tw11742747992081356105 : Unit:=()
noncomputable def PySem.Challenge.cw_growurns_k21_stands_holds.tw15995671840230388995 : Unit:=()
noncomputable def PySem.Challenge.cw_growurns_k21_stands_holds.tw11908766306472371104 : Unit:=()
noncomputable def PySem.Challenge.cw_growurns_k21_stands_holds.tw14535930353819488356 : Unit:=()
noncomputable def PySem.Challenge.cw_growurns_k21_stands_holds.tw10074507656623190541 : Unit:=()
noncomputable def PySem.Challenge.cw_growurns_k21_stands_holds.tw2468131752623523538 : Unit:=()
noncomputable def PySem.Challenge.cw_growurns_k21_stands_holds.tw3448876943287574517 : Unit:=()
noncomputable def PySem.Challenge.cw_growurns_k21_stands_holds.tw16201533453512142838 : Unit:=()
noncomputable def PySem.Challenge.cw_growurns_k21_stands_holds.tw9652333852334548256 : Unit:=()
noncomputable def PySem.Challenge.cw_growurns_k21_stands_holds.tw6802630763550222076 : Unit:=()
noncomputable def PySem.Challenge.cw_growurns_k21_stands_holds.tw14094010975498037895 : Unit:=()
noncomputable def PySem.Challenge.cw_growurns_k21_stands_holds.tw5001946909460762242 : Unit:=()
noncomputable def PySem.Challenge.cw_growurns_k21_stands_holds.tw8326735509682062844 : Unit:=()
noncomputable def PySem.Challenge.cw_growurns_k21_stands_holds.tw2237625911765651122 : Unit:=()
noncomputable def PySem.Challenge.cw_growurns_k21_stands_holds.tw526286461420240471 : Unit:=()
noncomputable def PySem.Challenge.cw_growurns_k21_stands_holds.tw4453853356888890574 : Unit:=()
noncomputable def PySem.Challenge.cw_growurns_k21_stands_holds.tw6860532402111120854 : Unit:=()
noncomputable def PySem.Challenge.cw_growurns_k21_stands_holds.tw88343605811850863 : Unit:=()
noncomputable def PySem.Challenge.cw_growurns_k21_stands_holds.tw9661534497258006522 : Unit:=()
noncomputable def PySem.Challenge.cw_growurns_k21_stands_holds.tw15004297740033811992 : Unit:=()
noncomputable def PySem.Challenge.cw_growurns_k21_stands_holds.tw17846989095560628459 : Unit:=()
noncomputable def PySem.Challenge.cw_growurns_k21_stands_holds.tw484017896992210881 : Unit:=()
noncomputable def PySem.Challenge.cw_growurns_k21_stands_holds.tw14175551560402946326 : Unit:=()
noncomputable def PySem.Challenge.cw_growurns_k21_stands_holds.tw2230591433537851564 : Unit:=()
noncomputable def PySem.Challenge.cw_growurns_k21_stands_holds.tw16556529117871351638 : Unit:=()
noncomputable def PySem.Challenge.cw_growurns_k21_stands_holds.tw4512388943793193835 : Unit:=()
noncomputable def PySem.Challenge.cw_growurns_k21_stands_holds.tw13873859979518458144 : Unit:=()
noncomputable def PySem.Challenge.cw_growurns_k21_stands_holds.tw10505240150823481063 : Unit:=()
noncomputable def PySem.Challenge.cw_growurns_k21_stands_holds.tw6561292493616381922 : Unit:=()
noncomputable def PySem.Challenge.cw_growurns_k21_stands_holds.tw12274190752972814182 : Unit:=()
noncomputable def PySem.Challenge.cw_growurns_k21_stands_holds.tw1265765827342039196 : Unit:=()
noncomputable def PySem.Challenge.cw_growurns_k21_stands_holds.tw1970740019105674806 : Unit:=()
noncomputable def PySem.Challenge.cw_growurns_k21_stands_holds.tw4626504904467072166 : Unit:=()
noncomputable def PySem.Challenge.cw_growurns_k21_stands_holds.tw16825116842684441129 : Unit:=()
noncomputable def PySem.Challenge.cw_growurns_k21_stands_holds.tw5265064116409318769 : Unit:=()
noncomputable def PySem.Challenge.cw_growurns_k21_stands_holds.tw255773519937311373 : Unit:=()
noncomputable def PySem.Challenge.cw_growurns_k21_stands_holds.tw503870271335909122 : Unit:=()
noncomputable def PySem.Challenge.cw_growurns_k21_stands_holds.tw6337152742768898125 : Unit:=()
noncomputable def PySem.Challenge.cw_growurns_k21_stands_holds.tw5753735005675502237 : Unit:=()
noncomputable def PySem.Challenge.cw_growurns_k21_stands_holds.tw6288139339202694379 : Unit:=()
noncomputable def PySem.Challenge.cw_growurns_k21_stands_holds.tw7897894353771309170 : Unit:=()
noncomputable def PySem.Challenge.cw_growurns_k21_stands_holds.tw8886541503170669043 : Unit:=()
noncomputable def PySem.Challenge.cw_growurns_k21_stands_holds.tw8024837728088548913 : Unit:=()
noncomputable def PySem.Challenge.cw_growurns_k21_stands_holds.tw9722818285208381368 : Unit:=()
noncomputable def PySem.Challenge.cw_growurns_k21_stands_holds.tw11093175889482943427 : Unit:=()
noncomputable def PySem.Challenge.cw_growurns_k21_stands_holds.tw1258358583789727089 : Unit:=()
noncomputable def PySem.Challenge.cw_growurns_k21_stands_holds.tw3268680952271818458 : Unit:=()
noncomputable def PySem.Challenge.cw_growurns_k21_stands_holds.tw12014033203279147549 : Unit:=()
noncomputable def PySem.Challenge.cw_growurns_k21_stands_holds.tw15014994752930694486 : Unit:=()
noncomputable def PySem.Challenge.cw_growurns_k21_stands_holds.tw11715780603941915161 : Unit:=()
noncomputable def PySem.Challenge.cw_growurns_k21_stands_holds.tw13565875330120383409 : Unit:=()
noncomputable def PySem.Challenge.cw_growurns_k21_stands_holds.tw17372232392946137273 : Unit:=()
noncomputable def PySem.Challenge.cw_growurns_k21_stands_holds.tw16639513840989603977 : Unit:=()
noncomputable def PySem.Challenge.cw_growurns_k21_stands_holds.tw6683158498515135948 : Unit:=()
noncomputable def PySem.Challenge.cw_growurns_k21_stands_holds.tw4815486450902533242 : Unit:=()
noncomputable def PySem.Challenge.cw_growurns_k21_stands_holds.tw14192688201497445242 : Unit:=()
noncomputable def PySem.Challenge.cw_growurns_k21_stands_holds.tw17133449021694201117 : Unit:=()
noncomputable def PySem.Challenge.cw_growurns_k21_stands_holds.tw3941008884202439099 : Unit:=()
noncomputable def PySem.Challenge.cw_growurns_k21_stands_holds.tw9684190395362055951 : Unit:=()
noncomputable def PySem.Challenge.cw_growurns_k21_stands_holds.tw5328434572907495554 : Unit:=()
noncomputable def PySem.Challenge.cw_growurns_k21_stands_holds.tw6699927891620142476 : Unit:=()
noncomputable def PySem.Challenge.cw_growurns_k21_stands_holds.tw2507049174174291755 : Unit:=()
noncomputable def PySem.Challenge.cw_growurns_k21_stands_holds.tw15879182695284820293 : Unit:=()
noncomputable def PySem.Challenge.cw_growurns_k21_stands_holds.tw15376052529785195887 : Unit:=()
noncomputable def PySem.Challenge.cw_growurns_k21_stands_holds.tw552478897451710374 : Unit:=()
noncomputable def PySem.Challenge.cw_growurns_k21_stands_holds.tw14405379884480742991 : Unit:=()
noncomputable def PySem.Challenge.cw_growurns_k21_stands_holds.tw2162789818399782155 : Unit:=()
noncomputable def PySem.Challenge.cw_growurns_k21_stands_holds.tw16428342116621612307 : Unit:=()
noncomputable def PySem.Challenge.cw_growurns_k21_stands_holds.tw13492499816637546460 : Unit:=()
noncomputable def PySem.Challenge.cw_growurns_k21_stands_holds.tw1464519872232918035 : Unit:=()
noncomputable def PySem.Challenge.cw_growurns_k21_stands_holds.tw5737720099987498515 : Unit:=()
noncomputable def PySem.Challenge.cw_growurns_k21_stands_holds.tw1057132002567489394 : Unit:=()
noncomputable def PySem.Challenge.cw_growurns_k21_stands_holds.tw11841697755597370969 : Unit:=()
noncomputable def PySem.Challenge.cw_growurns_k21_stands_holds.tw15216618690646646655 : Unit:=()
noncomputable def PySem.Challenge.cw_growurns_k21_stands_holds.tw15255750356971268048 : Unit:=()
noncomputable def PySem.Challenge.cw_growurns_k21_stands_holds.tw3388045378561258236 : Unit:=()
noncomputable def PySem.Challenge.cw_growurns_k21_stands_holds.tw440986979636462459 : Unit:=()
noncomputable def PySem.Challenge.cw_growurns_k21_stands_holds.tw4656534252065050298 : Unit:=()
noncomputable def PySem.Challenge.cw_growurns_k21_stands_holds.tw17579696815922343536 : Unit:=()
noncomputable def PySem.Challenge.cw_growurns_k21_stands_holds.tw2776456472892598139 : Unit:=()
noncomputable def PySem.Challenge.cw_growurns_k21_stands_holds.tw8421229349676633915 : Unit:=()
set_option Elab.async true
open PySem PySem.W PyProof.Rows
set_option maxRecDepth 100000 in
set_option maxHeartbeats 0 in
theorem PySem.Challenge.cw_growurns_k21_stands_holds : PySem.Challenge.rw_growurns_k21_stands.Holds := by
 w_on;o_law;k_head;(case hw=>w_witness2)
 k_fill
 refine G.walk (l:=PySem.Challenge.rw_growurns_k21_stands) rfl rfl (fun w h Y=>W.km_in_of Y) (fun w h Y=>W.km_tabs_of Y) ?F
 case F =>
  intro w mg fa h KX NS hmg
  refine' G.Jo KX NS hmg (G.Gb KX NS ?e0 ?e1 ?e2 ?e3 ?e4 ?e5 ?e6 ?e7 ?e8 ?e9 ?eb ?eA ?eB ?eC) (G.J6 ?a1 ?l1 ?c1 ?k1) (G.J6 ?a2 ?l2 ?c2 ?k2) (G.J6 ?a3 ?l3 ?c3 ?k3) (G.J6 ?a4 ?l4 ?c4 ?k4) (G.J6 ?a5 ?l5 ?c5 ?k5) (G.J6 ?a6 ?l6 ?c6 ?k6) (G.J6 ?a7 ?l7 ?c7 ?k7) (G.J6 ?a8 ?l8 ?c8 ?k8) (G.J6 ?a9 ?l9 ?c9 ?k9) (G.J6 ?a10 ?l10 ?c10 ?k10) (G.J6 ?a11 ?l11 ?c11 ?k11) (G.J6 ?a12 ?l12 ?c12 ?k12) (G.J6 ?a13 ?l13 ?c13 ?k13) (G.J6 ?a14 ?l14 ?c14 ?k14) (G.J6 ?a15 ?l15 ?c15 ?k15) (G.J6 ?a16 ?l16 ?c16 ?k16) (G.J6 ?a17 ?l17 ?c17 ?k17) (G.J6 ?a18 ?l18 ?c18 ?k18) (G.J6 ?a19 ?l19 ?c19 ?k19) (G.J6 ?a20 ?l20 ?c20 ?k20) (G.J6 ?a21 ?l21 ?c21 ?k21) (G.J6 ?a22 ?l22 ?c22 ?k22) (G.J6 ?a23 ?l23 ?c23 ?k23) (G.J6 ?a24 ?l24 ?c24 ?k24) (G.J6 ?a25 ?l25 ?c25 ?k25) (G.J6 ?a26 ?l26 ?c26 ?k26) (G.J6 ?a27 ?l27 ?c27 ?k27) (G.J6 ?a28 ?l28 ?c28 ?k28) (G.J6 ?a29 ?l29 ?c29 ?k29) (G.J6 ?a30 ?l30 ?c30 ?k30) (G.J6 ?a31 ?l31 ?c31 ?k31) (G.J6 ?a32 ?l32 ?c32 ?k32) (G.J6 ?a33 ?l33 ?c33 ?k33) (G.J6 ?a34 ?l34 ?c34 ?k34) (G.J6 ?a35 ?l35 ?c35 ?k35) (G.J6 ?a36 ?l36 ?c36 ?k36) (G.J6 ?a37 ?l37 ?c37 ?k37) (G.J6 ?a38 ?l38 ?c38 ?k38) (G.J6 ?a39 ?l39 ?c39 ?k39) (G.J6 ?a40 ?l40 ?c40 ?k40) (G.J6 ?a41 ?l41 ?c41 ?k41) (G.J6 ?a42 ?l42 ?c42 ?k42) (G.FY ?la ?ll ?lc ?lk ?lt ?ln) ?z1 ?z2 ?z3 ?z4 ?z5 ?z6 ?z7 ?z8 ?z9 ?z10 ?z11 ?z12 ?z13 ?z14 ?z15 ?z16 ?zV ?m1 ?m2 ?m3 ?m4
  (case e0=>k_is);(case e1=>k_is);(case e2=>k_is);(case e3=>k_is);(case e4=>k_is);(case e5=>k_is);(case e6=>k_is);(case e7=>k_is);(case e8=>k_is);(case e9=>k_is);(case eb=>k_is)
  (case eA=>kernel_rfl)
  (case eB=>kernel_rfl)
  (case eC=>kernel_rfl)
  (case a1=>k_is);(case l1=>k_is);(case c1=>k_is);(case k1=>k_is)
  (case a2=>k_is);(case l2=>k_is);(case c2=>k_is);(case k2=>k_is)
  (case a3=>k_is);(case l3=>k_is);(case c3=>k_is);(case k3=>k_is)
  (case a4=>k_is);(case l4=>k_is);(case c4=>k_is);(case k4=>k_is)
  (case a5=>k_is);(case l5=>k_is);(case c5=>k_is);(case k5=>k_is)
  (case a6=>k_is);(case l6=>k_is);(case c6=>k_is);(case k6=>k_is)
  (case a7=>k_is);(case l7=>k_is);(case c7=>k_is);(case k7=>k_is)
  (case a8=>k_is);(case l8=>k_is);(case c8=>k_is);(case k8=>k_is)
  (case a9=>k_is);(case l9=>k_is);(case c9=>k_is);(case k9=>k_is)
  (case a10=>k_is);(case l10=>k_is);(case c10=>k_is);(case k10=>k_is)
  (case a11=>k_is);(case l11=>k_is);(case c11=>k_is);(case k11=>k_is)
  (case a12=>k_is);(case l12=>k_is);(case c12=>k_is);(case k12=>k_is)
  (case a13=>k_is);(case l13=>k_is);(case c13=>k_is);(case k13=>k_is)
  (case a14=>k_is);(case l14=>k_is);(case c14=>k_is);(case k14=>k_is)
  (case a15=>k_is);(case l15=>k_is);(case c15=>k_is);(case k15=>k_is)
  (case a16=>k_is);(case l16=>k_is);(case c16=>k_is);(case k16=>k_is)
  (case a17=>k_is);(case l17=>k_is);(case c17=>k_is);(case k17=>k_is)
  (case a18=>k_is);(case l18=>k_is);(case c18=>k_is);(case k18=>k_is)
  (case a19=>k_is);(case l19=>k_is);(case c19=>k_is);(case k19=>k_is)
  (case a20=>k_is);(case l20=>k_is);(case c20=>k_is);(case k20=>k_is)
  (case a21=>k_is);(case l21=>k_is);(case c21=>k_is);(case k21=>k_is)
  (case a22=>k_is);(case l22=>k_is);(case c22=>k_is);(case k22=>k_is)
  (case a23=>k_is);(case l23=>k_is);(case c23=>k_is);(case k23=>k_is)
  (case a24=>k_is);(case l24=>k_is);(case c24=>k_is);(case k24=>k_is)
  (case a25=>k_is);(case l25=>k_is);(case c25=>k_is);(case k25=>k_is)
  (case a26=>k_is);(case l26=>k_is);(case c26=>k_is);(case k26=>k_is)
  (case a27=>k_is);(case l27=>k_is);(case c27=>k_is);(case k27=>k_is)
  (case a28=>k_is);(case l28=>k_is);(case c28=>k_is);(case k28=>k_is)
  (case a29=>k_is);(case l29=>k_is);(case c29=>k_is);(case k29=>k_is)
  (case a30=>k_is);(case l30=>k_is);(case c30=>k_is);(case k30=>k_is)
  (case a31=>k_is);(case l31=>k_is);(case c31=>k_is);(case k31=>k_is)
  (case a32=>k_is);(case l32=>k_is);(case c32=>k_is);(case k32=>k_is)
  (case a33=>k_is);(case l33=>k_is);(case c33=>k_is);(case k33=>k_is)
  (case a34=>k_is);(case l34=>k_is);(case c34=>k_is);(case k34=>k_is)
  (case a35=>k_is);(case l35=>k_is);(case c35=>k_is);(case k35=>k_is)
  (case a36=>k_is);(case l36=>k_is);(case c36=>k_is);(case k36=>k_is)
  (case a37=>k_is);(case l37=>k_is);(case c37=>k_is);(case k37=>k_is)
  (case a38=>k_is);(case l38=>k_is);(case c38=>k_is);(case k38=>k_is)
  (case a39=>k_is);(case l39=>k_is);(case c39=>k_is);(case k39=>k_is)
  (case a40=>k_is);(case l40=>k_is);(case c40=>k_is);(case k40=>k_is)
  (case a41=>k_is);(case l41=>k_is);(case c41=>k_is);(case k41=>k_is)
  (case a42=>k_is);(case l42=>k_is);(case c42=>k_is);(case k42=>k_is)
  (case la=>k_is);(case ll=>k_is);(case lc=>k_is);(case lk=>k_is);(case lt=>kernel_rfl);(case ln=>kernel_rfl)
  (case z1=>k_is);(case z2=>k_is);(case z3=>k_is);(case z4=>k_is);(case z5=>k_is);(case z6=>k_is);(case z7=>k_is);(case z8=>k_is);(case z9=>k_is);(case z10=>k_is);(case z11=>k_is);(case z12=>k_is);(case z13=>k_is);(case z14=>k_is);(case z15=>k_is);(case z16=>k_is);(case zV=>k_is)
  (case m1=>k_is);(case m2=>k_is);(case m3=>k_is);(case m4=>k_is)
#print axioms PySem.Challenge.cw_growurns_k21_stands_holds
