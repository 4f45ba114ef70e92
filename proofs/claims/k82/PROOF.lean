import PyProof.Rows.All
import Wide.All
import OpenK.AllK
import Wide.FinOn
import Lean
import PyProof.EqAt
import PyProof.EqKinds
import PyProof.TupleCall
import KE.KIsAll
import KE.KLam
import KE.KTryDeep
import PyProof.ExcAttrAll.ValueError
import KE.KSortTup
import KE.KItemsList
import PyProof.Rows.SortRuns
import KE.KDictList
import PyProof.Rows.SortStr
import PySem.Challenge.RW_growurns_k82_mean_shares_of_two_urns
open PySem renaming wpAny_bind→b8,Value→b9,Shared→d7,wpAny_pure→d9,sizeLine→i6,Program→j6,wpAny→m6,World→r9,model→t8,mainGlobals→t9,Around→A5,PyData→B0,starEach→C4,boot_len→C8,FuncData→D6,wpAny_newObj_type→E4,wpAny_field→E5,wpAny_call_entry→E8,wpAny_callSpecial?_slot→F0,wpAny_setField_rec→F5,wpAny_mono→K5,wpAny_truthy_bool→N7,wpAny_rule→P1,wpAny_holding→P9,Scope→Q0,cellsFrom→Q7,compareOp→T8,DictEntry→T9,wpAny_attempt→V8,binaryOp→W8,rawInt→X3,bootBuiltins→X4,wpAny_seqItems→X9,sysModules→aa,wpAny_typeNameOfWhole_itemiter→aw,wpAny_setField→az,wpAny_isInstance→aA,NameKind→aB,wpAny_typeNameOfWhole_keyiter→aO,sizeLine_eq→aP,wpAny_pyIter_tuple→aR,backTo→aU,wpAny_passesOwn→bh,cLine→bj,wpAny_dictEntries→bB,Builtin→bD,mem_of_lookup→bF,pyNext→bQ,wpAny_typeNameOf_itemiter→cy,wpAny_typeNameOf_keyiter→cK,behindInMarks→cL,wpAny_execs_nil→cW,wpAny_dictEpoch→cX,wpAny_Call_Name_kw→dn,call_meets→dq,IsItemIter→dz,Arguments→dN,wpAny_bindName→dW,firstArgMember→dX,bindName→dZ,Paired→ee,assignEach→ft,wpAny_standAt→fA,wpAny_specialOf→fW,codeAny_mono→gM,codeAmong→iw,TriplesOk→iz,typeIs_int→iK,wpAny_binaryOp_repeat_ref→iV,assignInOrder→jE,pushCells→jW,wpAny_isOneOf_itemiter→kU,getItem→kW,codeAny→kX,builtinsNs→kY,wpAny_loadPart'→lX,letOwnedTupleGo→lY,Model→lZ,isSubtype_tuple_tuple→mi,wpAny_newTuple→nU,wpAny_fieldsOf→nV,setField→nW,pyIter→nX,isSubtype_stop→nY,IsPart→nZ,swapsWith→om,Keyword→oo,wpAny_onRaise→qA,swappedStores→qB,strLen_append→qC,field→qD,attributeBase→qF,wpAny_tupleItemsOf→qJ,wpAny_call→qK,wpAny_Constant_int→qL,isInstance→qM,assign→qN,IsPair→qR,wpAny_pyIter_slot→sE,wpAny_pyIter_list→sF,relabel→sJ,foldedSetIterable→sL,callerA→sM,BindsTo→tf,wpAny_execs_cons→uW,setFlight→uZ,noFill_tuple_add→va,Result→vb,wpAny_of_eq→wO,wpAny_letGo→wQ,subscripted→wR,pushCells_keeps→xl,wpAny_newFunctionEnv_cells→Ae,newFunctionEnv→Af,bindArgs→Ai,IsZip→An,wpAny_handled→BB,wpAny_comprehension_free→BC,swapsWithSole→BD,seq_tuple_add→BF,call→BG,IsItemIterOut→BN,noteFrame→Eb,eqIsQuiet→Ec,bindL→Ee,bindC→Ef,Meets→Eh,CmpOp→El,wpAny_typeOf→Er,seqIndex_neg→Et,newExc→Eu,leaving→Ex,concat_meets→Ey,seqSlot_of→EC,IsEnum→EH,wpAny_notOrdered_dict→FJ,wpAny_isTrue_Compare1→FK,wpAny_isOneOf_keyiter→FM,codeAny_call_function→FN,wpAny_updateSeq_pair→Gn,wpAny_throw→Gp,unbindBehindTheSuite→Gq,seqIndex_of→Gr,newTuple→Gs,keywordEach→Gu,wpAny_Name→Jp,typeLookup→Jq,isTrue→Jr,entryOfKey→Js,Within→Jz,wpAny_sequenceKey→Lo,wpAny_pyIter_enum→Lp,wpAny_assign_Name→Lq,holding→Lu,collect→Lv,wpAny_pyIter_zip→LM,wpAny_forIn_list→LN,tupleKind→LO,onTheHeap→LQ,joinParts→LR,IsEnumOut→Mf
open List renaming length_map→d6,getElem?_eq_getElem→f6,mem_cons_self→j8,mem_cons_of_mem→j9,size_toArray→n9,length_append→v9,length_take→y7,map_append→A3,getElem?_map→A4,replicate→A7,length_cons→A8,mem_append_right→A9,mem_cons→B6,map_cons→B7,not_mem_nil→C3,mem_of_getElem?→C5,mem_of_mem_take→C9,take_append_drop→D1,take_add_one→D2,take_length→D4,getD_eq_getElem?_getD→E2,getElem?_set_ne→G5,getElem_mem→K0,take_of_length_le→K1,lookup_cons→L8,length_drop→M0,cons_append→M3,mem_of_mem_drop→M6,mem_append_left→O0,getElem?_drop→O2,length_replicate→P0,all_map→P6,getElem?_take→P7,range→R0,map_map→R4,drop_zero→R5,drop_eq_nil_of_le→R6,nodup_cons→S4,length_nil→S5,append_nil→S6,forIn_cons→Y0,append_assoc→Y2,sum_cons→Y9,replicate_succ→Z2,forIn_nil→Z9,getElem?_set_self→av,nil_append→aF,take→aJ,drop→aK,perm_append_comm→aQ,length_set→bV,getElem_toArray→eI,reverse_append→fw,filterMap_cons→fx,toArray→fB,zip_cons_cons→fV,mem_or_eq_of_mem_set→gI,pairwise_map→gR,ext_getElem?→gS,eq_of_mem_replicate→iA,all_eq_true→iT,of_mem_zip→jG,length_singleton→jP,getElem?_zipWith→jQ,getElem?_eq_none→jR,drop_drop→kM,length_zipWith→md,set_comm→ml,zipIdx_cons→qG,drop_append_of_le_length→qP,find?_cons→rC,take_take→uN,all_cons→wY,pairwise_singleton→xp,mem_singleton_self→xq,map_set→yT,map_nil→yU,reverse_reverse→Bu,length→Bv,getElem_of_mem→BL,getElem?_range→BM,map_replicate→Ei,foldl→Ej,all_replicate→Ek,zip_nil_left→ED,take_sublist→EE,length_range→EF,flatten_cons→EG,getElem_map→FP,getElem_inj→FQ,countP_cons→FR,any_eq_true→FS,zipIdx_nil→Gx,zipWith→Ly,map_id'→Lz,map_id→Me
open PySem.Heap renaming get?_push_of_some→f9,lt_size→j7,get?_push_size→t7,size_push→G3,SameBut→K3,get?_update_other→O5,get?_update_self→X6,get?_none_of_le→kN,ExtBut→kO,IsTuple→LA
open Nat renaming le_refl→i8,le_trans→n6,zero_le→u9,ne_of_lt→v8,lt_of_lt_of_le→B5,pow_le_pow_right→C6,mul_le_mul→C7,lt_of_le_of_lt→F2,ne_of_gt→F6,pow_add→K7,mul_le_mul_left→L6,lt_succ_of_lt→R9,pos_of_ne_zero→U2,zero_add→U7,le_of_lt→U8,mul_add→V5,pow_lt_pow_right→Y6,lt_irrefl→Z0,le_add_right→ag,lt_succ_self→bG,mul_ne_zero→cz,mul_pos→cG,le_succ→cH,log2_lt→eW,le_add_left→fu,sub_zero→oS,mul_one→rB,min_eq_left→sS,le_mul_of_pos_right→yS,pow_succ→Am,not_succ_le_self→BJ,mul_le_mul_right→BK,lt_succ_of_le→FO,not_lt_of_le→Gv,min_le_right→Gw,strongRecOn→IX,max_eq_left→IY,lt_trans→LZ,lt_or_ge→Ma,le_of_eq→Mb,gcd_comm→Mc
open PyProof.Rows renaming wpS_bind→i9,wpS_pure→m8,Keyed→n8,boot_isinstance→B4,boot_tuple→J6,wpS_forRange→J8,wpS_modify→K4,SortSt→K6,mirror→N5,wpS_mono→W7,slot_tuple_getitem→X5,wpS_get→Y1,pendingOf→Z1,envOfC→ae,callWith_type1→af,assignInOrder_cons→aV,IntsAre→aX,SortKind→cM,arrOf→dJ,failedOf→dY,wpS_lift→fM,seqObj→fX,boot_list→iy,AllBare→jv,boot_int→jX,assignInOrder_nil→sN,boot_sum→Ag,boot_all→Ah,IsTup→Ao,subscriptTail→BE,boot_bool→Ed,subscriptTail_builtinR→Es,minRun'_succ→Ew,getElem?_mirror_all→IQ,entry_tuple_getitem→IR,args_tuple_getitem→Jt,Subscript_→Jx,unpackItems_tuple→Lr,minRun'→Ls,sortRuns'→LP
open PySem.W renaming Frag→m9,mg_none_of→M7,nsIn→O7,findIn→X8,mg_of→ao,kia_one→bg,kitOne→cC,keepIn→cD,fnOf→gN,codeIn→jF,codeHdIn→jY,specialIn→mj,subIn→nA,kia_tup→nB,envX→oM,cellsFrom_some→sO,clsIn→wU,kitCls→xm,kat_cons→xn,takesIn→Bo,kla_obj→Bp,tabObj→Ez,methodObj→EA,kitx_list→EB,mroIn→IT,excIn→IU,Looks→IV,instObj→Ju,findObj→Jv,OpenLaw→Jw,looks_findIn→LS,lookIn→LU,InstAt→LV
open PyProof.Rows.SortSt renaming mk'→v7
open PySem.Value renaming ref→y6,none→E9,bool→Y5,builtin→bR,int→oO,str→wV,notImplemented→Aj,isInt→Ak,isStrOf→IW,float→Lx,type→LW
open Bool renaming false_ne_true→A0,and_eq_true→A6,false_and→O3,false_eq_true→P8,true_and→Q8,not_eq_true'→Y3,eq_iff_iff→aI,not_true→iG,not_eq_false'→nE,and_false→uQ
open Or renaming inl→A2,inr→gH
open PySem.Builtin.Int renaming intBits→B8
open Option.some renaming inj→E7
open Int renaming le_trans→F8,natAbs_natCast→Q3,toNat_natCast→S0,gcd→U9,natAbs_mul→ah,le_of_lt→aC,emod_lt_of_pos→aD,natCast_mul→cA,emod_nonneg→cB,mul_nonneg→dA,le_refl→fb,fdiv_eq_ediv_of_nonneg→vc,gcd_zero_right→EI,ediv_nonneg→IZ,add_nonneg→JB,zero_add→Mi
open Array renaming getElem?_eq_getElem→G1,length_toList→G2,toList_append→I0,getElem?_eq_none→cN,toList_reverse→eh,toList_push→gJ,getElem?_toList→jI,getElem?_setIfInBounds_self_of_lt→jS,forIn_toList→mw,size_extract→BU,getD→BV,toList→JE
open PySem.Builtin.SmallTypes renaming nextOf→G6,ownedTupleIsFree→K8,ownedTupleHandOut→T5
open False renaming elim→G8
open PySem.PassesOwn renaming never→J7
open Ne renaming symm→J9
open PySem.Obj renaming data_mapFields→Q2,mapFields→Q9,isFreed_of_fields→aW,mapSeq→bt,cls_mapFields→oQ
open PySem.Builtin.Dict_items renaming ownsTuple→S2,ownedTupleIsFree→fZ,ownedTupleFields→gh,pairFromOwner→iB
open PySem.Paired renaming length→U0
open PySem.Heap.SameBut renaming update→U4
open PySem.Str renaming ofString→U6
open PySem.NameKind renaming free→W2,cell→dw
open Sum renaming inl→Z8,inr→oP
open True renaming intro→au
open PySem.F renaming slot_dict_itemiterator_next→aG,slot_dict_keyiterator_next→aY,slot_tuple_iterator_next→bI,slot_int_rmul→cI,slot_enumerate_next→eJ,args_tuple_add_2→fY,plainAttrs_list→gO,entry_tuple_add→gQ,args_tuple_mul_2→gT,slot_tuple_add→iL,entry_tuple_mul→iU,slot_tuple_mul→jH,slot_zip_next→kQ,args_int_rmul_2→qS,args_dict_itemiterator_next_1→rD,type_list_append→sQ,slot_list_append→sR,entry_int_rmul→sT,entry_dict_itemiterator_next→sU,args_dict_keyiterator_next_1→sV,slot_dict_items→uL,plainAttrs_dict→uM,slot_dict_itemiterator_iter→uO,entry_dict_keyiterator_next→uP,fills_int_mul→vd,args_tuple_iterator_next_1→ve,slot_dict_get→wX,entry_tuple_iterator_next→wZ,args_enumerate_next_1→Bw,slot_dict_items_iter→BP,entry_enumerate_next→BQ,slot_tuple_hash→Ja,plain_list_iadd→Jb,args_zip_next_1→Jc,slot_dict_iter→JC,entry_zip_next→JD,slot_tuple_eq→LB
open PySem.Builtin.Slice renaming slicePlaces→aH,sliceAdjust→eg,sliceApplied→mv
open PySem.Builtin.Tuple renaming tupleExact→aZ,tupleItemsOf→dP,tupleHashOf→ef,tupleIsExact→mq
open PySem.SeqAt renaming shaped→br,EqAt→sP
open ForInStep renaming yield→bC,done→BO
open PySem.AutoSeq1 renaming wpAny_loadPart'→bE
open List.Pairwise renaming nil→bH,imp_of_mem→eZ,sublist→qH
open Option renaming map_some→bS,map_eq_some_iff→cF,map→Br,isSome_map→BI,bind_some→Eg,none→JA
open List.Perm renaming refl→bW
open PySem.Builtin.Dict renaming showsAll→bX
open PySem.PyData renaming int→dM,canLay0→jO,eqv→rA,canLayAll0→BH
open PyProof.Rows.IsTup renaming new→fC
open PySem.Calls renaming callWith_builtin→iW,evalArgs_plain→jZ,spliced_cons→mn,Name_function_global→sW,Constant_str→BR,spliced_nil→Em
open PySem.SeqAt.EqAt renaming int_int→jN,of_refs→wW,same→Al
open PySem.Builtin.ObjectAttr renaming bindTo→kc
open PySem.Shared renaming TypeIs→kZ,heap→yR
open PySem.pyHashByItsType renaming reduced→nv
open Rat renaming mkRat_def→nD,mul_le_mul_of_nonneg_right→qO,mul_nonneg→Jy,zero_add→LX,add_zero→LY
open PySem.DictEntry renaming key→qT
open PySem.EntryCells renaming newEntry→vf
open PySem.SeqAt.RcAt renaming tuples→xo
open PySem.Flow renaming next→xt
open Bind renaming bind→xu
open PySem.Around renaming under_plainId→yV,frames_deeper→yW
open Prod renaming ext→Bq
open PySem.W.WShape renaming has→Lw
open PySem.CmpOp renaming NotIn→LC
set_option Elab.async false
set_option linter.all false
set_option maxRecDepth 100000
namespace L2
open PySem PySem.Spec PyProof.Rows
noncomputable abbrev jt:=Sum Int Str
noncomputable def nS:jt->b9->Bool
 | .inl k,v=>Ak k v
 | .inr x,v=>IW x v
noncomputable def keyH (w:r9):jt->Int
 | .inl k=>hashInt k
 | .inr x=>hashStr w x
theorem X7:∀{k:jt}{v:b9},nS k v=true->(∃i t,k=Z8 i/\v=oO i t) ∨ (∃x t,k=oP x/\v=wV x t)
 | .inl i,v,h=>by
  obtain ⟨t,e⟩:=Value.isInt_shape (k:=i) (v:=v) h
  exact .inl ⟨i,t,rfl,e⟩
 | .inr x,v,h=>by
  obtain ⟨t,e⟩:=Value.isStrOf_shape (x:=x) (v:=v) h
  exact .inr ⟨x,t,rfl,e⟩
theorem AV (i:Int) (t:Tok):nS (.inl i) (.int i t)=true:=by simp[nS,Ak]
theorem AU (x:Str) (t:Tok):nS (.inr x) (.str x t)=true:=by simp[nS,IW]
theorem Ii (a b:Int):decide ((Z8 a:jt)=Z8 b)=(a == b):=by
 by_cases e:a=b
 ·subst e;simp
 ·have h:¬ (Z8 a:jt)=Z8 b:=fun q=>e (Sum.inl.inj q)
  rw[decide_eq_false h]
  exact (beq_eq_false_iff_ne.mpr e).symm
theorem Ie (a b:Str):decide ((oP a:jt)=oP b)=decide (a=b):=by
 by_cases e:a=b
 ·subst e;simp
 ·have h:¬ (oP a:jt)=oP b:=fun q=>e (Sum.inr.inj q)
  rw[decide_eq_false h,decide_eq_false e]
theorem Ih (a:Int) (b:Str):decide ((Z8 a:jt)=oP b)=false:=decide_eq_false (fun q=>nomatch q)
theorem Ig (a:Str) (b:Int):decide ((oP a:jt)=Z8 b)=false:=decide_eq_false (fun q=>nomatch q)
noncomputable def el (prog:j6) (w:r9):PySem.KeyKind prog w jt where
 is:=nS
 hash:=keyH w
 inj:=fun v a b ha hb=>by
  rcases X7 ha with ⟨i,t,rfl,rfl⟩|⟨x,t,rfl,rfl⟩
  ·rcases X7 hb with ⟨j,u,rfl,e⟩|⟨y,u,rfl,e⟩
   ·injection e with e1 _;rw[e1]
   ·exact nomatch e
  ·rcases X7 hb with ⟨j,u,rfl,e⟩|⟨y,u,rfl,e⟩
   ·exact nomatch e
   ·injection e with e1 _;rw[e1]
 byValue:=fun k v h=>by
  rcases X7 h with ⟨i,t,rfl,rfl⟩|⟨x,t,rfl,rfl⟩ <;> rfl
 pyHash:=fun hv h=>by
  rcases X7 hv with ⟨i,t,rfl,rfl⟩|⟨x,t,rfl,rfl⟩
  ·exact wpAny_pyHash_int h
  ·exact wpAny_pyHash_str h
 eqBool:=fun hu hv h=>by
  rcases X7 hu with ⟨i,t,rfl,rfl⟩|⟨x,t,rfl,rfl⟩
  ·rcases X7 hv with ⟨j,u,rfl,rfl⟩|⟨y,u,rfl,rfl⟩
   ·rw[Ii] at h;exact wpAny_eqBool_int h
   ·rw[Ih] at h;exact SeqAt.EqAt.int_str i t y u _ _ _ _ h
  ·rcases X7 hv with ⟨j,u,rfl,rfl⟩|⟨y,u,rfl,rfl⟩
   ·rw[Ig] at h;exact SeqAt.EqAt.str_int x t j u _ _ _ _ h
   ·rw[Ie] at h;exact wpAny_eqBool_str h
 «strs»:=fun k x t v h=>by
  rcases X7 h with ⟨i,u,rfl,e⟩|⟨y,u,rfl,e⟩
  ·exact nomatch e
  ·injection e with e1 _
   subst e1
   cases v <;> rfl
theorem vX (prog:j6) (w:r9) (i:Int) (t:Tok):(el prog w).is (.inl i) (.int i t)=true:=AV i t
theorem vW (prog:j6) (w:r9) (x:Str) (t:Tok):(el prog w).is (.inr x) (.str x t)=true:=AU x t
inductive V where
 | non|bl (b:Bool)|int (i:Int)|str (x:Str)|byt (b:Array UInt8)|flt (b:UInt64)|ref (a:Addr)|ty (n:String)
 deriving DecidableEq
noncomputable def Q4:V->b9->Prop
 | .non,u=>u=E9
 | .bl b,u=>u=Y5 b
 | .int i,u=>∃t,u=oO i t
 | .str x,u=>∃t,u=wV x t
 | .byt b,u=>∃t,u=Value.bytes b t
 | .flt b,u=>∃t,u=Lx b t
 | .ref a,u=>u=y6 a
 | .ty n,u=>u=LW n
noncomputable abbrev M9:List V->List b9->Prop:=ee Q4
theorem M9.length {xs:List V}{us:List b9} (r:M9 xs us):xs.length=us.length:=U0 r
theorem M9.get:∀{xs:List V}{us:List b9}{i:Nat}{x:V},M9 xs us->xs[i]?=some x->∃u,us[i]?=some u/\Q4 x u
 | _,_,_,_,.nil,e=>by simp at e
 | _,_,0,_,.cons r _,e=>by simp at e;subst e;exact ⟨_,rfl,r⟩
 | _,_,i+1,x,.cons _ t,e=>by
  obtain ⟨u,h1,h2⟩:=M9.get (i:=i) (x:=x) t (by simpa using e)
  exact ⟨u,by simpa using h1,h2⟩
theorem M9.set {x:V}{u:b9} (r:Q4 x u):∀{xs:List V}{us:List b9} (i:Nat),M9 xs us->M9 (xs.set i x) (us.set i u)
 | _,_,_,.nil=>.nil
 | _,_,0,.cons _ t=>.cons r t
 | _,_,i+1,.cons q t=>.cons q (M9.set r i t)
theorem M9.append:∀{xs ys:List V}{us ws:List b9},M9 xs us->M9 ys ws->M9 (xs++ys) (us++ws)
 | _,_,_,_,.nil,s=>s
 | _,_,_,_,.cons r t,s=>.cons r (M9.append t s)
theorem M9.take:∀{xs:List V}{us:List b9} (n:Nat),M9 xs us->M9 (xs.take n) (us.take n)
 | _,_,0,_=>.nil
 | _,_,_+1,.nil=>.nil
 | _,_,n+1,.cons r t=>.cons r (M9.take n t)
theorem M9.drop:∀{xs:List V}{us:List b9} (n:Nat),M9 xs us->M9 (xs.drop n) (us.drop n)
 | _,_,0,r=>r
 | _,_,_+1,.nil=>.nil
 | _,_,n+1,.cons _ t=>M9.drop n t
noncomputable def IE:Option V->Option b9->Prop
 | some v,some u=>Q4 v u
 | none,none=>True
 | _,_=>False
noncomputable def KV {κ:Type}:List (κ × V)->List (κ × b9)->Prop:=ee fun (p:κ × V) (q:κ × b9)=>p.1=q.1/\Q4 p.2 q.2
noncomputable def kV:jt->V
 | .inl i=>.int i
 | .inr x=>.str x
inductive HO where
 | lst (xs:List V)
 | tup (xs:List V)
 | dK (kvs:List (jt × V))|dT (kvs:List (List jt × V))
 | set (S:Int->Bool) (n:Nat)
 | ins (C dx:Addr) (fs:List (Str × V))
 | own (x:Addr)
 | xd (fs:List (Str × V))
 | met (f x:Addr)
 | rng (lo hi:Int)
 | frz (o:Obj) (u:HO)
 | tbl (ps:Array b9)
 | ext (φ:Heap->Prop)
noncomputable abbrev Hp:=Addr->Option HO
noncomputable def n5 (H:Hp) (a:Addr) (o:HO):Hp:=fun b=>if b=a then some o else H b
variable {H:Hp}{a:Addr}{o:HO}
theorem f7 :n5 H a o a=some o:=by unfold n5;rw[if_pos rfl]
variable {b:Addr}
theorem C0 (h:b≠a):n5 H a o b=H b:=by unfold n5;rw[if_neg h]
theorem Dr {u:HO} (h:H a=some o) (h':H b=some u) (d:o≠u):a≠b:=by
 intro e;subst e;rw[h] at h';exact d (E7 h')
theorem v5 (h:H a=some o) (h':H b=none):a≠b:=by
 intro e;subst e;rw[h] at h';cases h'
section
variable (P:j6) (w:r9)
noncomputable def P5 (H:Hp) (h:Heap) (a:Addr):HO->Prop
 | .lst xs=>xs.length<=i6/\∃(its:List b9) (n:Nat),M9 xs its/\h.get? a=some { cls:=.type "list",data:=.seq its.toArray n }
 | .tup xs=>xs.length<=i6/\∃its:List b9,M9 xs its/\Ao h a its.toArray
 | .dK kvs=>kvs.length<=i6/\(a == aa)=false/\∃vs,KV kvs vs/\h.DictOf (el P w) a vs
 | .dT kvs=>kvs.length<=i6/\(a == aa)=false/\∃xs:List (List jt × Addr × b9),
   ee (fun (p:List jt × V) (q:List jt × Addr × b9)=>p.1=q.1/\H q.2.1=some (.tup (p.1.map kV))/\Q4 p.2 q.2.2) kvs xs /\
   ∃o es ep,h.get? a=some o/\o.ExactDict/\o.data=.dict es ep/\es.toList=xs.map (Js (LO (el P w)))/\(xs.map (·.1)).Nodup
 | .set S n=>h.SetOf (intKind P w) a S n
 | .ins C dx fs=>H dx=some (.own a)/\fs.length<=1000/\dx≠a/\h.get? a=some (Ju C dx) /\
   ∃mA,h.Ns1 dx mA/\(∀f,IE (fs.lookup f) (mA f))/\Jz mA (fs.map (·.1))
 | .own _=>∃o,h.get? a=some o
 | .xd fs=>∃mA,h.Ns1 a mA/\∀f,IE (fs.lookup f) (mA f)
 | .rng lo hi=>∃t u v,h.get? a=some { cls:=.type "range",data:=.fields #[.int lo t,.int hi u,.int 1 v] }
 | .frz o u=>h.get? a=some o/\P5 H h a u
 | .tbl ps=>h.get? a=some { cls:=.none,data:=.fields ps }
 | .met f x=>h.get? a=some (EA (.ref f) (.ref x))
 | .ext φ=>φ h/\(∃o,h.get? a=some o)/\∀h1 h2:Heap,φ h1->(∀o,h1.get? a=some o->h2.get? a=some o)->φ h2
noncomputable def cV (H:Hp) (h:Heap):Prop:=∀a o,H a=some o->P5 P w H h a o
end
section
variable {P:j6}{w:r9}{H H':Hp}{h h':Heap}{a:Addr}{o:HO}
theorem P5.lt (x:P5 P w H h a o):a<h.objs.size:=by
 cases o with
 | lst xs=>obtain ⟨_,_,_,_,e⟩:=x;exact j7 e
 | tup xs=>obtain ⟨_,_,_,p⟩:=x;exact p.lt
 | dK kvs=>obtain ⟨_,_,_,_,o,_,_,e,_⟩:=x;exact j7 e
 | dT kvs=>obtain ⟨_,_,_,_,o,_,_,e,_⟩:=x;exact j7 e
 | set S n=>obtain ⟨o,_,_,_,e,_⟩:=x;exact j7 e
 | ins C dx fs=>obtain ⟨_,_,_,e,_⟩:=x;exact j7 e
 | own y=>obtain ⟨_,e⟩:=x;exact j7 e
 | xd fs=>obtain ⟨_,⟨_,_,_,e,_⟩,_⟩:=x;exact j7 e
 | rng lo hi=>obtain ⟨_,_,_,e⟩:=x;exact j7 e
 | frz ob u=>obtain ⟨e,_⟩:=x;exact j7 e
 | tbl ps=>exact j7 (show h.get? a=some _ from x)
 | met f y=>exact j7 (show h.get? a=some _ from x)
 | ext φ=>obtain ⟨_,⟨_,e⟩,_⟩:=x;exact j7 e
theorem Paired.mapP {α β:Type}{F G:α->β->Prop}:∀{l₁:List α}{l₂:List β},ee F l₁ l₂->(∀a b,F a b->G a b)->ee G l₁ l₂
 | _,_,.nil,_=>.nil
 | _,_,.cons r t,f=>.cons (f _ _ r) (Paired.mapP t f)
theorem P5.stay (x:P5 P w H h a o) (k:∀b u,(b=a ∨ H b=some (.own a))->h.get? b=some u->h'.get? b=some u)
  (ho:∀b,H b=some (.own a)->H' b=some (.own a)) (ht:∀b xs,H b=some (.tup xs)->H' b=some (.tup xs)):P5 P w H' h' a o:=by
 induction o with
 | lst xs=>obtain ⟨z,its,n,r,e⟩:=x;exact ⟨z,its,n,r,k _ _ (.inl rfl) e⟩
 | tup xs=>obtain ⟨z,its,r,ob,e,c⟩:=x;exact ⟨z,its,r,ob,k _ _ (.inl rfl) e,c⟩
 | dK kvs=>obtain ⟨z,y,vs,r,ob,es,ep,e,c⟩:=x;exact ⟨z,y,vs,r,ob,es,ep,k _ _ (.inl rfl) e,c⟩
 | dT kvs =>
  obtain ⟨z,y,xs,r,ob,es,ep,e,c⟩:=x
  exact ⟨z,y,xs,Paired.mapP r fun p q z=>⟨z.1,ht _ _ z.2.1,z.2.2⟩,ob,es,ep,k _ _ (.inl rfl) e,c⟩
 | set S n=>obtain ⟨ob,es,ep,t,e,c⟩:=x;exact ⟨ob,es,ep,t,k _ _ (.inl rfl) e,c⟩
 | ins C dx fs =>
  obtain ⟨d,z,ne,e,mA,⟨od,es,ep,e2,c⟩,r⟩:=x
  exact ⟨ho _ d,z,ne,k _ _ (.inl rfl) e,mA,⟨od,es,ep,k _ _ (.inr d) e2,c⟩,r⟩
 | own y=>obtain ⟨ob,e⟩:=x;exact ⟨ob,k _ _ (.inl rfl) e⟩
 | xd fs=>obtain ⟨mA,⟨od,es,ep,e,c⟩,r⟩:=x;exact ⟨mA,⟨od,es,ep,k _ _ (.inl rfl) e,c⟩,r⟩
 | rng lo hi=>obtain ⟨t,u,v,e⟩:=x;exact ⟨t,u,v,k _ _ (.inl rfl) e⟩
 | frz ob u ih=>obtain ⟨e,q⟩:=x;exact ⟨k _ _ (.inl rfl) e,ih q⟩
 | tbl ps =>
  have e:h.get? a=some { cls:=.none,data:=.fields ps }:=x
  show h'.get? a=some { cls:=.none,data:=.fields ps }
  exact k a _ (.inl rfl) e
 | met f y =>
  have e:h.get? a=some (EA (.ref f) (.ref y)):=x
  show h'.get? a=some (EA (.ref f) (.ref y))
  exact k a _ (.inl rfl) e
 | ext φ=>obtain ⟨p,⟨o,e⟩,st⟩:=x;exact ⟨st _ _ p fun o q=>k _ _ (.inl rfl) q,⟨o,k _ _ (.inl rfl) e⟩,st⟩
theorem cV.lt (x:cV P w H h) (e:H a=some o):a<h.objs.size:=(x a o e).lt
theorem cV.fresh (x:cV P w H h) (e:h.objs.size<=a):H a=none:=by
 cases q:H a with
 | none=>rfl
 | some u=>exact absurd (B5 (x.lt q) e) (Z0 _)
theorem cV.kept (x:cV P w H h) (k:∀b u,h.get? b=some u->h'.get? b=some u):cV P w H h':=fun a o e =>
 (x a o e).stay (fun b u _ q=>k b u q) (fun _ q=>q) fun _ _ q=>q
theorem cV.laid (x:cV P w H h) (k:∀b u,h.get? b=some u->h'.get? b=some u) (hp:h.objs.size<=a) (new:P5 P w (n5 H a o) h' a o):cV P w (n5 H a o) h':=fun b u e=>by
 have hn:=x.fresh hp
 by_cases hb:b=a
 ·subst hb;rw[f7] at e;cases e;exact new
 ·rw[C0 hb] at e
  exact (x b u e).stay (fun c v _ q=>k c v q) (fun c q=>by rw[C0 (v5 q hn)];exact q) fun c xs q=>by rw[C0 (v5 q hn)];exact q
end
noncomputable def Rd (H:Hp) (a:Addr) (u:HO):Prop:=H a=some u ∨ ∃o,H a=some (.frz o u)
variable {P:j6}{w:r9}{h:Heap}
theorem Rd.ok {u:HO} (r:Rd H a u) (x:cV P w H h):P5 P w H h a u:=by
 rcases r with r|⟨o,r⟩
 ·exact x a u r
 ·obtain ⟨_,q⟩:=x a _ r
  exact q
noncomputable def Le:Option HO->Prop
 | some (.lst _)=>True
 | some (.dK _)=>True
 | some (.dT _)=>True
 | some (.set _ _)=>True
 | some (.ins _ _ _)=>True
 | some (.ext _)=>True
 | _=>False
section
variable {P:j6}{w:r9}{H:Hp}{h h':Heap}{x e:Addr}{o':HO}
theorem cV.write (ok:cV P w H h) (mu:Le (H x)) (he:e=x ∨ H e=some (.own x)) (k:∀b u,b≠e->h.get? b=some u->h'.get? b=some u) (heo:∃u,h'.get? e=some u)
  (new:P5 P w (n5 H x o') h' x o'):cV P w (n5 H x o') h':=fun b u q=>by
 have nown:∀c y,H c=some (.own y)->c≠x:=fun c y r z=>by subst z;rw[r] at mu;exact mu
 have ntup:∀c xs,H c=some (.tup xs)->c≠x:=fun c xs r z=>by subst z;rw[r] at mu;exact mu
 by_cases hb:b=x
 ·subst hb;rw[f7] at q;cases q;exact new
 ·rw[C0 hb] at q
  by_cases hbe:b=e
  ·have q':H b=some (.own x):=by
    rcases he with z|z
    ·exact absurd (hbe.trans z) hb
    ·rw[hbe];exact z
   rw[q] at q';cases q'
   obtain ⟨v,hv⟩:=heo
   exact ⟨v,by rw[hbe];exact hv⟩
  ·refine (ok b u q).stay (fun c v hc r=>k c v ?_ r) (fun c r=>by rw[C0 (nown c b r)];exact r) fun c xs r=>by rw[C0 (ntup c xs r)];exact r
   rcases hc with rfl|hc
   ·exact hbe
   ·rintro rfl
    rcases he with z|z
    ·exact nown c b hc z
    ·rw[hc] at z;cases z;exact hb rfl
end
structure Un (fs ex:List Addr) (H H':Hp) (h h':Heap):Prop where
 keep:∀b o,h.get? b=some o->H b=none->b ∉ fs->b ∉ ex->h'.get? b=some o
 slot:∀b o,h.get? b=some o->H b=none->b∈fs->b ∉ ex->∃sl,h'.get? b=some { o with slots:=sl }
 free:∀b o,h.get? b=some o->H b=none->b ∉ ex->H' b=none
 there:∀b o,h.get? b=some o->b ∉ ex->∃o',h'.get? b=some o'
 tups:∀b xs,H b=some (.tup xs)->H' b=some (.tup xs)
 frzs:∀b o u,H b=some (.frz o u)->H' b=some (.frz o u)
 tbls:∀b ps,H b=some (.tbl ps)->∃more,H' b=some (.tbl (ps++more))
section
variable {fs fs' ex ex':List Addr}{H H1 H2:Hp}{h h1 h2 h':Heap}{a x e:Addr}{o:HO}
theorem Un.any (u:Un fs ex H H1 h h1) {b:Addr}{ob:Obj} (q:h.get? b=some ob) (n:H b=none) (hx:b ∉ ex):∃sl,h1.get? b=some { ob with slots:=sl }:=by
 by_cases hb:b∈fs
 ·exact u.slot b ob q n hb hx
 ·exact ⟨ob.slots,u.keep b ob q n hb hx⟩
theorem Un.kept (k:∀b u,h.get? b=some u->h'.get? b=some u):Un fs ex H H h h' :=
 ⟨fun b ob q _ _ _=>k b ob q,fun b ob q _ _ _=>⟨ob.slots,k b ob q⟩,fun _ _ _ n _=>n,fun b ob q _=>⟨ob,k b ob q⟩,fun _ _ q=>q,fun _ _ _ q=>q,fun _ ps q=>⟨#[],by rw[q];simp⟩⟩
theorem Un.refl:Un fs ex H H h h:=Un.kept fun _ _ q=>q
theorem Un.laid (k:∀b u,h.get? b=some u->h'.get? b=some u) (hp:h.objs.size<=a) (hn:H a=none):Un fs ex H (n5 H a o) h h' where
 keep:=fun b u q _ _ _=>k b u q
 slot:=fun b u q _ _ _=>⟨u.slots,k b u q⟩
 free:=fun b u q n _=>by rw[C0 (v8 (B5 (j7 q) hp))];exact n
 there:=fun b u q _=>⟨u,k b u q⟩
 tups:=fun b xs q=>by rw[C0 (v5 q hn)];exact q
 frzs:=fun b u xs q=>by rw[C0 (v5 q hn)];exact q
 tbls:=fun b ps q=>⟨#[],by rw[C0 (v5 q hn),q];simp⟩
theorem Un.write (mu:Le (H x)) (he:e=x ∨ H e=some (.own x)) (k:∀b u,b≠e->h.get? b=some u->h'.get? b=some u) (heo:∃u,h'.get? e=some u):Un fs ex H (n5 H x o) h h':=by
 have hx:∀b,H b=none->b≠x:=fun b n z=>by subst z;rw[n] at mu;exact mu
 have hb:∀b,H b=none->b≠e:=fun b n z=>by
  subst z
  rcases he with r|r
  ·exact hx b n r
  ·rw[n] at r;cases r
 have hm:∀b u,H b=some u->¬ Le (some u)->b≠x:=fun b u q nm z=>by subst z;rw[q] at mu;exact nm mu
 refine ⟨fun b u q n _ _=>k b u (hb b n) q,fun b u q n _ _=>⟨u.slots,k b u (hb b n) q⟩,fun b u q n _=>by rw[C0 (hx b n)];exact n,fun b u q _=>?_,
  fun b xs q=>by rw[C0 (hm b _ q fun z=>z)];exact q,fun b u xs q=>by rw[C0 (hm b _ q fun z=>z)];exact q,fun b ps q=>⟨#[],by rw[C0 (hm b _ q fun z=>z),q];simp⟩⟩
 by_cases hbe:b=e
 ·subst hbe;exact heo
 ·exact ⟨u,k b u hbe q⟩
end
noncomputable def LD (h:Heap) (H:Hp):List Addr:=(R0 h.objs.size).filter fun a=>(H a).isSome
noncomputable def rg (h:Heap) (H:Hp):Heap:=W.hideAll h (LD h H)
theorem AY (h:Heap) (H:Hp):(rg h H).objs.size=h.objs.size:=W.hideAll_size _ _
theorem DF {o:Obj} (e:h.get? b=some o) (n:H b=none):(rg h H).get? b=some o :=
 W.hideAll_get _ e fun hm=>by
  have q:(H b).isSome=true:=(List.mem_filter.mp hm).2
  rw[n] at q;simp at q
theorem Fk {o:Obj} (e:(rg h H).get? b=some o):h.get? b=some o/\H b=none:=by
 have e':h.get? b=some o:=W.of_hideAll (LD h H) e
 refine ⟨e',?_⟩
 cases q:H b with
 | none=>rfl
 | some x =>
  have hm:b∈LD h H:=List.mem_filter.mpr ⟨List.mem_range.mpr (j7 e'),by simp[q]⟩
  have z:(rg h H).get? b=none:=W.hideAll_none (LD h H) hm
  rw[z] at e;cases e
noncomputable def FH (g h:Heap) (L:Addr):List (Addr × Obj):=(R0 h.objs.size).filterMap fun a=>if a=L ∨ (g.get? a).isSome=true then none else (h.get? a).map fun o=>(a,o)
noncomputable def gj (g h:Heap) (L d:Addr):List (Addr × Obj):=(FH g h L).filter fun p=>decide (p.1≠d)
structure Mod (K:m9) (mg:Str->Option b9) (base:Heap):Prop where
 kin:K.In base
 glob:base.Ns t9 mg
 blt:∃mb,base.Ns kY mb/\∀x:Str,x≠"__name__"->mb x=X4 x
 nolimit:base.NoLimit
structure Cx where
 prog:j6
 w:r9
 K:m9
 mg:Str->Option b9
 base:Heap
 A:A5
 N:List Str
 s₀:d7
 H₀:Hp
 env:Env
 outer:List Env
 stack:List Env
 ex:List Addr
 fn:Str->Bool
 calm:Bool
 pn:List (Addr × Obj)
 xe:b9->d7->Prop
noncomputable def lN (l:List Env):List Addr:=l.filterMap (·.frame)
noncomputable abbrev Cx.fs (X:Cx):List Addr:=lN X.outer
noncomputable def La (sc:Q0) (x:Str):Prop:=sc.names.lookup x=some .local ∨ sc.names.lookup x=some .cell ∨ sc.names.lookup x=some .free
noncomputable def Lf (sc:Q0) (x:Str):Prop:=sc.names.lookup x=some .local ∨ sc.names.lookup x=some .cell
noncomputable def Look (env:Env) (h:Heap) (m:Str->Option b9) (x:Str) (u:b9):Prop :=
 (env.kindOf x=some .local/\m x=some u) ∨ ((env.kindOf x=some .cell ∨ env.kindOf x=some .free)/\∃c,env.cells.lookup x=some c/\h.IsCell c (some u))
structure Cx.Ok (X:Cx):Prop where
 mod:Mod X.K X.mg X.base
 kind:X.env.scope.kind=.function
 glob:X.env.globals=t9
 blt:X.env.builtins=kY
 above:X.s₀.heap.objs.size<=X.env.locals
 inj:∀x y c,X.env.cells.lookup x=some c->X.env.cells.lookup y=some c->x=y
 has:∀x,(X.env.kindOf x=some .cell ∨ X.env.kindOf x=some .free)->∃c,X.env.cells.lookup x=some c
 cab:∀x c,X.fn x=true->X.env.cells.lookup x=some c->X.s₀.heap.objs.size<=c
 hd:X.calm=true->X.A.handled=none
 frames:X.A.frames=some X.stack
 stk:X.stack=X.outer ∨ (X.stack=X.env::X.outer/\X.env.frame=some X.env.locals)
 exf:∀b∈X.ex,b≠X.env.locals/\∀x c,X.env.cells.lookup x=some c->c≠b
 bs:∀b o,X.base.get? b=some o->X.s₀.heap.get? b=some o/\X.H₀ b=none
 bsz:X.base.objs.size<=X.s₀.heap.objs.size
 noex:∀b o,X.base.get? b=some o->b ∉ X.ex
 exfs:∀b∈X.ex,b ∉ X.fs
 funs:X.s₀.heap.FunFrames X.base X.outer
 frf:∀b∈X.fs,X.H₀ b=none
structure E6 (X:Cx) (pins:List (Addr × Obj)) (σ:List (Option V)) (H:Hp) (s:d7):Prop where
 ok:X.Ok
 os:s.os=X.s₀.os
 bare:jv s.gens
 base:Un X.fs X.ex X.H₀ H X.s₀.heap s.heap
 loc:∃m,s.heap.Ns X.env.locals m/\∀(i:Nat) (x:Str) (v:V),X.N[i]?=some x->σ[i]?=some (some v)->La X.env.scope x->∃u,Q4 v u/\Look X.env s.heap m x u
 cell:∀x c,X.env.cells.lookup x=some c->∃v,s.heap.IsCell c v
 free:H X.env.locals=none
 freeC:∀x c,X.env.cells.lookup x=some c->H c=none
 pin:∀p∈X.pn++pins,s.heap.get? p.1=some p.2/\H p.1=none/\p.1≠X.env.locals/\p.1 ∉ X.fs/\∀v,p.2.data≠.cell v
 hok:cV X.prog X.w H s.heap
 len:σ.length=X.N.length
section
variable {X:Cx}{pins:List (Addr × Obj)}{σ:List (Option V)}{H H':Hp}{s:d7}{h':Heap}
theorem Cx.Ok.nofr (ok:X.Ok) {b:Addr}{o:Obj} (e:X.base.get? b=some o):b ∉ X.fs:=fun hb=>by
 have:=(ok.funs.mem hb).1
 rw[e] at this;cases this
theorem E6.bs (I:E6 X pins σ H s):∀b o,X.base.get? b=some o->s.heap.get? b=some o/\H b=none:=fun b o e =>
 ⟨I.base.keep b o (I.ok.bs b o e).1 (I.ok.bs b o e).2 (I.ok.nofr e) (I.ok.noex b o e),I.base.free b o (I.ok.bs b o e).1 (I.ok.bs b o e).2 (I.ok.noex b o e)⟩
theorem E6.bk (I:E6 X pins σ H s):∀b o,X.base.get? b=some o->s.heap.get? b=some o:=fun b o e=>(I.bs b o e).1
theorem E6.mod (I:E6 X pins σ H s):Mod X.K X.mg X.base:=I.ok.mod
theorem E6.kIn (I:E6 X pins σ H s):X.K.In s.heap:=I.ok.mod.kin.keeps I.bk
theorem E6.nolimit (I:E6 X pins σ H s):s.heap.NoLimit:=I.ok.mod.nolimit.keeps I.bk
theorem E6.lt (I:E6 X pins σ H s):X.env.locals<s.heap.objs.size:=let ⟨_,hn,_⟩:=I.loc;hn.lt
theorem E6.sz (I:E6 X pins σ H s):X.s₀.heap.objs.size<=s.heap.objs.size:=n6 I.ok.above (U8 I.lt)
theorem E6.nofs (I:E6 X pins σ H s) {a:Addr} (h:s.heap.objs.size<=a):a ∉ X.fs:=fun hb=>by
 obtain ⟨_,o,ho,_⟩:=I.ok.funs.mem hb
 exact absurd (B5 (j7 ho) (n6 I.sz h)) (Z0 _)
theorem E6.cne (I:E6 X pins σ H s):∀x c,X.env.cells.lookup x=some c->c≠X.env.locals:=fun x c e z=>by
 obtain ⟨v,o,ho,hd⟩:=I.cell x c e
 obtain ⟨m,⟨o',es,ep,ho',hd',_⟩,_⟩:=I.loc
 rw[z,ho'] at ho;cases ho;rw[hd'] at hd;cases hd
theorem E6.funs (I:E6 X pins σ H s):s.heap.FunFrames X.base X.outer:=by
 have all:∀(l:List Env),(∀b∈lN l,b∈X.fs)->X.s₀.heap.FunFrames X.base l->s.heap.FunFrames X.base l:=by
  intro l
  induction l with
  | nil=>intro _ _;trivial
  | cons env r ih =>
   intro hs hl
   obtain ⟨hk,⟨L,o,hf,hn,ho,hd⟩,hr⟩:=hl
   have hL:L∈X.fs:=hs L (by unfold lN;rw[fx,hf];exact j8)
   obtain ⟨sl,e⟩:=I.base.slot L o ho (I.ok.frf L hL) hL fun z=>I.ok.exfs L z hL
   exact ⟨hk,⟨L,_,hf,hn,e,hd⟩,ih (fun b hb=>hs b (by unfold lN;rw[fx,hf];exact j9 _ hb)) hr⟩
 exact all X.outer (fun _ hb=>hb) I.ok.funs
theorem E6.stack (I:E6 X pins σ H s):s.heap.FunFrames X.base X.stack:=by
 rcases I.ok.stk with e|⟨e,hf⟩
 ·rw[e];exact I.funs
 ·rw[e]
  obtain ⟨m,hn,_⟩:=I.loc
  refine .cons (by rw[I.ok.kind];decide) hf hn ?_ I.funs
  exact kN (n6 I.ok.bsz I.ok.above)
theorem E6.stkSub (I:E6 X pins σ H s):∀b∈lN X.stack,b∈X.env.locals::X.fs:=fun b hb=>by
 rcases I.ok.stk with e|⟨e,hf⟩
 ·rw[e] at hb;exact j9 _ hb
 ·rw[e] at hb
  unfold lN at hb
  rw[fx,hf] at hb
  exact hb
theorem E6.stkFree (I:E6 X pins σ H s):∀b∈lN X.stack,H b=none:=fun b hb=>by
 rcases List.mem_cons.mp (I.stkSub b hb) with e|hb
 ·rw[e];exact I.free
 ·obtain ⟨_,o,ho,_⟩:=I.ok.funs.mem hb
  exact I.base.free b o ho (I.ok.frf b hb) fun z=>I.ok.exfs b z hb
variable {t':Nat}{ch:List Addr}
theorem E6.step {g':Array GenState}{d':Drawn}(I:E6 X pins σ H s)
  (hch:∀b∈ch,(b∈X.ex ∨ X.s₀.heap.objs.size<=b)/\b≠X.env.locals/\(∀x c,X.env.cells.lookup x=some c->c≠b)/\∀p∈X.pn++pins,p.1≠b)
  (keep:∀b o,b≠X.env.locals->b ∉ X.fs->b ∉ ch->s.heap.get? b=some o->H b=none->h'.get? b=some o)
  (slot:∀b o,b≠X.env.locals->b∈X.fs->b ∉ ch->s.heap.get? b=some o->H b=none->∃sl,h'.get? b=some { o with slots:=sl }) (free:∀b o,b ∉ ch->s.heap.get? b=some o->H b=none->H' b=none)
  (there:∀b o,b ∉ ch->s.heap.get? b=some o->∃o',h'.get? b=some o')
  (tups:∀b xs,H b=some (.tup xs)->H' b=some (.tup xs)) (frzs:∀b o u,H b=some (.frz o u)->H' b=some (.frz o u)) (tbls:∀b ps,H b=some (.tbl ps)->∃more,H' b=some (.tbl (ps++more)))
  (ns:∀m,s.heap.Ns X.env.locals m->h'.Ns X.env.locals m) (hok:cV X.prog X.w H' h') (hg:jv g'):
  E6 X pins σ H' { s with heap:=h',gens:=g',drawn:=d',toks:=t' }:=by
 have neL:∀b o,X.s₀.heap.get? b=some o->b≠X.env.locals:=fun b o e=>v8 (B5 (j7 e) I.ok.above)
 have neC:∀b o,X.s₀.heap.get? b=some o->b ∉ X.ex->b ∉ ch:=fun b o e hx hb=>by
  rcases (hch b hb).1 with z|z
  ·exact hx z
  ·exact absurd (B5 (j7 e) z) (Z0 _)
 have cellK:∀x c,X.env.cells.lookup x=some c->∀v,s.heap.IsCell c v->h'.IsCell c v:=fun x c e v ⟨o,ho,hd⟩=>by
  have nch:c ∉ ch:=fun z=>(hch c z).2.2.1 x c e rfl
  by_cases hc:c∈X.fs
  ·obtain ⟨sl,q⟩:=slot c o (I.cne x c e) hc nch ho (I.freeC x c e)
   exact ⟨_,q,hd⟩
  ·exact ⟨o,keep c o (I.cne x c e) hc nch ho (I.freeC x c e),hd⟩
 refine ⟨I.ok,I.os,hg,⟨fun b o e n hb hx=>?_,fun b o e n hb hx=>?_,fun b o e n hx=>?_,fun b o e hx=>?_,fun b xs e=>tups b xs (I.base.tups b xs e),fun b o xs e=>frzs b o xs (I.base.frzs b o xs e),fun b ps e=>?_⟩,?_,fun x c e=>?_,?_,fun x c e=>?_,fun p hp=>?_,hok,I.len⟩
 ·exact keep b o (neL b o e) hb (neC b o e hx) (I.base.keep b o e n hb hx) (I.base.free b o e n hx)
 ·obtain ⟨sl,e1⟩:=I.base.slot b o e n hb hx
  obtain ⟨sl',e2⟩:=slot b _ (neL b o e) hb (neC b o e hx) e1 (I.base.free b o e n hx)
  exact ⟨sl',e2⟩
 ·obtain ⟨o',e1⟩:=I.base.there b o e hx
  exact free b o' (neC b o e hx) e1 (I.base.free b o e n hx)
 ·obtain ⟨o',e1⟩:=I.base.there b o e hx
  exact there b o' (neC b o e hx) e1
 ·obtain ⟨m1,e1⟩:=I.base.tbls b ps e
  obtain ⟨m2,e2⟩:=tbls b _ e1
  exact ⟨m1++m2,by rw[e2,Array.append_assoc]⟩
 ·obtain ⟨m,hn,hl⟩:=I.loc
  refine ⟨m,ns m hn,fun i x v e1 e2 e3=>?_⟩
  obtain ⟨u,r,l⟩:=hl i x v e1 e2 e3
  refine ⟨u,r,?_⟩
  rcases l with l|⟨k,c,e,z⟩
  ·exact .inl l
  ·exact .inr ⟨k,c,e,cellK x c e _ z⟩
 ·obtain ⟨v,z⟩:=I.cell x c e
  exact ⟨v,cellK x c e v z⟩
 ·obtain ⟨m,⟨o,_,_,ho,_⟩,_⟩:=I.loc
  exact free _ o (fun z=>(hch _ z).2.1 rfl) ho I.free
 ·obtain ⟨v,o,ho,hd⟩:=I.cell x c e
  exact free c o (fun z=>(hch c z).2.2.1 x c e rfl) ho (I.freeC x c e)
 ·obtain ⟨e,n,ne,nf,d⟩:=I.pin p hp
  have nch:p.1 ∉ ch:=fun z=>(hch p.1 z).2.2.2 p hp rfl
  exact ⟨keep p.1 p.2 ne nf nch e n,free p.1 p.2 nch e n,ne,nf,d⟩
theorem E6.un (I:E6 X pins σ H s) (u:Un X.fs [] H H' s.heap h') (hok:cV X.prog X.w H' h'):E6 X pins σ H' { s with heap:=h',toks:=t' }:=by
 obtain ⟨m,⟨o,es,ep,ho,r⟩,_⟩:=id I.loc
 obtain ⟨sl,hL⟩:=u.any ho I.free (by simp)
 exact I.step (g':=s.gens) (d':=s.drawn) (ch:=[]) (fun _ z=>nomatch z) (fun b o _ hb _ e n=>u.keep b o e n hb (by simp)) (fun b o _ hb _ e n=>u.slot b o e n hb (by simp)) (fun b o _ e n=>u.free b o e n (by simp)) (fun b o _ e=>u.there b o e (by simp)) u.tups u.frzs u.tbls (fun m' hm=>by
  obtain ⟨o',es',ep',ho',r'⟩:=hm
  rw[ho] at ho';cases ho'
  exact ⟨_,es',ep',hL,r'⟩) hok I.bare
theorem E6.call {g':Array GenState}{d':Drawn}(I:E6 X pins σ H s) (u:Un (lN X.stack) ch H H' s.heap h') (hok:cV X.prog X.w H' h') (hg:jv g')
  (hch:∀b∈ch,(b∈X.ex ∨ X.s₀.heap.objs.size<=b)/\b≠X.env.locals/\(∀x c,X.env.cells.lookup x=some c->c≠b)/\∀p∈X.pn++pins,p.1≠b):
  E6 X pins σ H' { s with heap:=h',gens:=g',drawn:=d',toks:=t' }:=by
 obtain ⟨m,⟨o,es,ep,ho,r⟩,_⟩:=id I.loc
 obtain ⟨sl,hL⟩:=u.any ho I.free fun z=>(hch _ z).2.1 rfl
 exact I.step (ch:=ch) hch (fun b o hL hb hc e n=>u.keep b o e n (fun z=>(List.mem_cons.mp (I.stkSub b z)).elim hL hb) hc) (fun b o _ _ hc e n=>u.any e n hc) (fun b o hc e n=>u.free b o e n hc) (fun b o hc e=>u.there b o e hc) u.tups u.frzs u.tbls (fun m' hm=>by
  obtain ⟨o',es',ep',ho',r'⟩:=hm
  rw[ho] at ho';cases ho'
  exact ⟨_,es',ep',hL,r'⟩) hok hg
theorem E6.turned {it:Addr} (I:E6 X pins σ H s) (k:∀b o,b≠it->s.heap.get? b=some o->h'.get? b=some o) (hn:H it=none) (hL:it≠X.env.locals)
  (h1:it∈X.ex ∨ X.s₀.heap.objs.size<=it) (h2:∀x c,X.env.cells.lookup x=some c->c≠it) (h3:∀p∈X.pn++pins,p.1≠it):E6 X pins σ H { s with heap:=h',toks:=t' }:=by
 have nit:∀b u,H b=some u->b≠it:=fun b u e z=>by rw[z,hn] at e;cases e
 refine I.step (g':=s.gens) (d':=s.drawn) (ch:=[it]) (fun b hb=>?_) (fun b o _ _ hc e _=>k b o (fun z=>hc (by simp[z])) e) (fun b o _ _ hc e _=>⟨o.slots,k b o (fun z=>hc (by simp[z])) e⟩) (fun _ _ _ _ n=>n)
  (fun b o hc e=>⟨o,k b o (fun z=>hc (by simp[z])) e⟩) (fun _ _ e=>e) (fun _ _ _ e=>e) (fun b ps e=>⟨#[],by rw[e];simp⟩) (fun m hm=>?_) (fun b u e=>?_) I.bare
 ·have e:b=it:=by simpa using hb
  subst e
  exact ⟨h1,hL,h2,h3⟩
 ·obtain ⟨o,es,ep,ho,r⟩:=hm
  exact ⟨o,es,ep,k _ o (J9 hL) ho,r⟩
 ·refine (I.hok b u e).stay (fun c v hc q=>k c v ?_ q) (fun _ q=>q) fun _ _ q=>q
  rcases hc with z|z
  ·rw[z];exact nit b u e
  ·exact nit c _ z
theorem E6.tok (I:E6 X pins σ H s) (t:Nat):E6 X pins σ H { s with toks:=t }:=I.un (h':=s.heap) (t':=t) Un.refl I.hok
theorem E6.kept {t':Nat} (I:E6 X pins σ H s) (k:∀b u,s.heap.get? b=some u->h'.get? b=some u):E6 X pins σ H { s with heap:=h',toks:=t' }:=I.un (Un.kept k) (I.hok.kept k)
theorem E6.laid {a:Addr}{o:HO}{t':Nat} (I:E6 X pins σ H s) (k:∀b u,s.heap.get? b=some u->h'.get? b=some u) (hp:s.heap.objs.size<=a) (new:P5 X.prog X.w (n5 H a o) h' a o):
  E6 X pins σ (n5 H a o) { s with heap:=h',toks:=t' }:=I.un (Un.laid k hp (I.hok.fresh hp)) (I.hok.laid k hp new)
theorem E6.write {x e:Addr}{o:HO}{t':Nat} (I:E6 X pins σ H s) (mu:Le (H x)) (he:e=x ∨ H e=some (.own x)) (k:∀b u,b≠e->s.heap.get? b=some u->h'.get? b=some u) (heo:∃u,h'.get? e=some u)
  (new:P5 X.prog X.w (n5 H x o) h' x o):E6 X pins σ (n5 H x o) { s with heap:=h',toks:=t' }:=I.un (Un.write mu he k heo) (I.hok.write mu he k heo new)
theorem E6.weak {σ':List (Option V)} (I:E6 X pins σ H s) (hl:σ'.length=σ.length) (w:∀(i:Nat) v,σ'[i]?=some (some v)->σ[i]?=some (some v)):E6 X pins σ' H s :=
 ⟨I.ok,I.os,I.bare,I.base,let ⟨m,hn,hl'⟩:=I.loc;⟨m,hn,fun i x v e1 e2 e3=>hl' i x v e1 (w i v e2) e3⟩,I.cell,I.free,I.freeC,I.pin,I.hok,hl.trans I.len⟩
theorem E6.pins_of {pins':List (Addr × Obj)} (I:E6 X pins σ H s) (h:∀p∈pins',s.heap.get? p.1=some p.2/\H p.1=none/\p.1≠X.env.locals/\p.1 ∉ X.fs/\∀v,p.2.data≠.cell v):E6 X pins' σ H s :=
 ⟨I.ok,I.os,I.bare,I.base,I.loc,I.cell,I.free,I.freeC,fun p hp=>(List.mem_append.mp hp).elim (fun z=>I.pin p (O0 _ z)) (h p),I.hok,I.len⟩
variable {i:Nat}{x:Str}
theorem pV {N:List Str} (hN:N.Nodup) {j:Nat}(a:N[i]?=some x) (b:N[j]?=some x):i=j:=by
 obtain ⟨h1,e1⟩:=List.getElem?_eq_some_iff.mp a
 obtain ⟨h2,e2⟩:=List.getElem?_eq_some_iff.mp b
 exact (FQ hN).mp (e1.trans e2.symm)
theorem rH {M:lZ}{A:A5}{E:b9->d7->Prop}{v:V}{u:b9}{Q:Unit->d7->Prop} (I:E6 X pins σ H s) (hN:X.N.Nodup) (hi:X.N[i]?=some x) (hx:Lf X.env.scope x) (r:Q4 v u)
  (h:∀s',E6 X pins (σ.set i (some v)) H s'->(∃a,K3 a s.heap s'.heap/\(a=X.env.locals ∨ X.env.cells.lookup x=some a))->Q () s') (hf:X.fn x=true ∨ X.env.scope.names.lookup x=some .local:=by first|exact .inl rfl|exact .inr rfl|assumption):m6 M A (storeName X.env x u) Q E s:=by
 obtain ⟨m,hn,hl⟩:=id I.loc
 have hcls:(X.env.scope.kind == .class || (X.env.scope.kind == .module&&X.env.locals != X.env.globals))=false:=by rw[I.ok.kind];rfl
 have hiσ:i<σ.length:=by rw[I.len];exact (List.getElem?_eq_some_iff.mp hi).1
 have cne:=I.cne
 have tracked:∀{a:Addr}{h':Heap},(∃o,s.heap.get? a=some o/\H a=none)->K3 a s.heap h'->cV X.prog X.w H h':=fun {a h'} ha hs b ob e=>by
  obtain ⟨_,_,hfree⟩:=ha
  refine (I.hok b ob e).stay (fun c w' hc q=>(hs.2 c ?_).trans q) (fun _ q=>q) fun _ _ q=>q
  rintro rfl
  rcases hc with rfl|hc
  ·rw[hfree] at e;cases e
  ·rw[hfree] at hc;cases hc
 rcases hx with hk|hk
 ·refine wpAny_storeName_local hk hn (fun h' hn' hs=>?_) hcls
  obtain ⟨oL,_,_,hoL,_⟩:=id hn
  refine h _ ⟨I.ok,I.os,I.bare,⟨fun b o e n hb hx=>?_,fun b o e n hb hx=>?_,I.base.free,fun b o e hx=>?_,I.base.tups,I.base.frzs,I.base.tbls⟩,⟨_,hn',fun j y v' e1 e2 e3=>?_⟩,fun y c e=>?_,I.free,I.freeC,fun p hp=>?_,tracked ⟨oL,hoL,I.free⟩ hs,by simpa using I.len⟩ ⟨_,hs,.inl rfl⟩
  ·exact (hs.2 b (v8 (B5 (j7 e) I.ok.above))).trans (I.base.keep b o e n hb hx)
  ·obtain ⟨sl,e1⟩:=I.base.slot b o e n hb hx
   exact ⟨sl,(hs.2 b (v8 (B5 (j7 e) I.ok.above))).trans e1⟩
  ·obtain ⟨o',e1⟩:=I.base.there b o e hx
   exact ⟨o',(hs.2 b (v8 (B5 (j7 e) I.ok.above))).trans e1⟩
  ·by_cases hj:j=i
   ·subst hj
    rw[hi] at e1;cases e1
    rw[av hiσ] at e2
    cases e2
    exact ⟨u,r,.inl ⟨hk,by simp⟩⟩
   ·rw[G5 (J9 hj)] at e2
    obtain ⟨u',r',q⟩:=hl j y v' e1 e2 e3
    refine ⟨u',r',?_⟩
    rcases q with ⟨k,e⟩|⟨k,c,e,z⟩
    ·refine .inl ⟨k,?_⟩
     have:y≠x:=fun e=>hj (pV hN e1 (e ▸ hi))
     simp[this,e]
    ·exact .inr ⟨k,c,e,z.sameBut hs (cne y c e)⟩
  ·obtain ⟨w',z⟩:=I.cell y c e
   exact ⟨w',z.sameBut hs (cne y c e)⟩
  ·obtain ⟨e,n,ne,nf,d⟩:=I.pin p hp
   exact ⟨(hs.2 p.1 ne).trans e,n,ne,nf,d⟩
 ·have hfn:X.fn x=true:=by
   rcases hf with z|z
   ·exact z
   ·rw[z] at hk;cases hk
  obtain ⟨c,hc⟩:=I.ok.has x (.inl hk)
  obtain ⟨w',z⟩:=I.cell x c hc
  refine wpAny_storeName_cell I.ok.kind hk hc z (fun h' hc' hs=>?_)
  obtain ⟨oc,hoc,hocd⟩:=id z
  refine h { s with heap:=h' } ⟨I.ok,I.os,I.bare,⟨fun b o e n hb hx=>?_,fun b o e n hb hx=>?_,I.base.free,fun b o e hx=>?_,I.base.tups,I.base.frzs,I.base.tbls⟩,⟨m,hn.sameBut hs (J9 (cne x c hc)),fun j y v' e1 e2 e3=>?_⟩,fun y c' e=>?_,I.free,I.freeC,fun p hp=>?_,tracked ⟨oc,hoc,I.freeC x c hc⟩ hs,by simpa using I.len⟩ ⟨c,hs,.inr hc⟩
  ·exact (hs.2 b (v8 (B5 (j7 e) (I.ok.cab x c hfn hc)))).trans (I.base.keep b o e n hb hx)
  ·obtain ⟨sl,e1⟩:=I.base.slot b o e n hb hx
   exact ⟨sl,(hs.2 b (v8 (B5 (j7 e) (I.ok.cab x c hfn hc)))).trans e1⟩
  ·obtain ⟨o',e1⟩:=I.base.there b o e hx
   exact ⟨o',(hs.2 b (v8 (B5 (j7 e) (I.ok.cab x c hfn hc)))).trans e1⟩
  ·by_cases hj:j=i
   ·subst hj
    rw[hi] at e1;cases e1
    rw[av hiσ] at e2
    cases e2
    exact ⟨u,r,.inr ⟨.inl hk,c,hc,hc'⟩⟩
   ·rw[G5 (J9 hj)] at e2
    obtain ⟨u',r',q⟩:=hl j y v' e1 e2 e3
    refine ⟨u',r',?_⟩
    rcases q with q|⟨k,c',e,z'⟩
    ·exact .inl q
    ·refine .inr ⟨k,c',e,z'.sameBut hs ?_⟩
     rintro rfl
     exact hj (pV hN e1 (I.ok.inj _ _ _ e hc ▸ hi))
  ·by_cases hcc:c'=c
   ·subst hcc;exact ⟨_,hc'⟩
   ·obtain ⟨w2,z2⟩:=I.cell y c' e
    exact ⟨w2,z2.sameBut hs hcc⟩
  ·obtain ⟨e,n,ne,nf,d⟩:=I.pin p hp
   refine ⟨(hs.2 p.1 ?_).trans e,n,ne,nf,d⟩
   intro q
   rw[q,hoc] at e
   have q':oc=p.2:=E7 e
   exact d w' (by rw[<- q'];exact hocd)
theorem cf {M:lZ}{A:A5}{E:b9->d7->Prop}{v:V}{u:b9}{Q:Unit->d7->Prop} (I:E6 X pins σ H s) (hN:X.N.Nodup) (hi:X.N[i]?=some x) (hx:Lf X.env.scope x) (r:Q4 v u)
  (h:∀s',E6 X pins (σ.set i (some v)) H s'->Q () s') (hf:X.fn x=true ∨ X.env.scope.names.lookup x=some .local:=by first|exact .inl rfl|exact .inr rfl|assumption):m6 M A (storeName X.env x u) Q E s :=
 rH I hN hi hx r (fun s' I' _=>h s' I') hf
theorem E6.call' {s':d7}(I:E6 X pins σ H s) (ho:s'.os=s.os) (u:Un (lN X.stack) ch H H' s.heap s'.heap) (hok:cV X.prog X.w H' s'.heap) (hg:jv s'.gens)
  (hch:∀b∈ch,(b∈X.ex ∨ X.s₀.heap.objs.size<=b)/\b≠X.env.locals/\(∀x c,X.env.cells.lookup x=some c->c≠b)/\∀p∈X.pn++pins,p.1≠b):E6 X pins σ H' s':=by
 obtain ⟨h',g',d',t',o'⟩:=s'
 have e:o'=s.os:=ho
 subst e
 exact I.call (g':=g') (t':=t') (d':=d') u hok hg hch
end
noncomputable abbrev XK:=b9->Option Addr->Hp->Prop
noncomputable abbrev St:=List (Option V)
noncomputable abbrev VK:=V->Hp->Prop
noncomputable abbrev TE:=St->Hp->VK->Prop
noncomputable abbrev TT:=St->Hp->(Bool->Hp->Prop)->Prop
noncomputable abbrev TA:=St->Hp->(List V->Hp->Prop)->Prop
structure ju where
 nx:St->Hp->Prop
 rt:VK
 bk:St->Hp->Prop:=fun _ _=>False
 ct:St->Hp->Prop:=fun _ _=>False
noncomputable abbrev TS:=ju->St->Hp->Prop
noncomputable def EP (X:Cx) (pins:List (Addr × Obj)) (σ:St) (Q:VK) (u:b9) (s':d7):Prop:=∃v H',E6 X pins σ H' s'/\Q4 v u/\Q v H'
noncomputable def TP (X:Cx) (pins:List (Addr × Obj)) (σ:St) (Q:Bool->Hp->Prop) (b:Bool) (s':d7):Prop:=∃H',E6 X pins σ H' s'/\Q b H'
noncomputable def AP (X:Cx) (pins:List (Addr × Obj)) (σ:St) (Q:List V->Hp->Prop) (us:List b9) (s':d7):Prop:=∃vs H',E6 X pins σ H' s'/\M9 vs us/\Q vs H'
noncomputable def SP (X:Cx) (pins:List (Addr × Obj)) (D:ju) (f:Flow) (s':d7):Prop :=
 match f with
 | .next=>∃σ' H',E6 X pins σ' H' s'/\D.nx σ' H'
 | .brk=>∃σ' H',E6 X pins σ' H' s'/\D.bk σ' H'
 | .cont=>∃σ' H',E6 X pins σ' H' s'/\D.ct σ' H'
 | .ret u=>∃v σ' H',E6 X pins σ' H' s'/\Q4 v u/\D.rt v H'
noncomputable def PE (X:Cx) (e:Expr) (t:TE):Prop :=
 ∀(pins:List (Addr × Obj)) (s:d7) (σ:St) (H:Hp) (Q:VK),E6 X pins σ H s->t σ H Q->m6 (t8 X.prog X.w) X.A (eval e X.env) (EP X pins σ Q) X.xe s
noncomputable def PT (X:Cx) (e:Expr) (t:TT):Prop :=
 ∀(pins:List (Addr × Obj)) (s:d7) (σ:St) (H:Hp) (Q:Bool->Hp->Prop),E6 X pins σ H s->t σ H Q->m6 (t8 X.prog X.w) X.A (Jr e X.env (eval e X.env)) (TP X pins σ Q) X.xe s
noncomputable def PW (X:Cx) (e:Expr) (t:TT):Prop :=
 ∀(whole:Sem b9) (pins:List (Addr × Obj)) (s:d7) (σ:St) (H:Hp) (Q:Bool->Hp->Prop),E6 X pins σ H s->t σ H Q->m6 (t8 X.prog X.w) X.A (Jr e X.env whole) (TP X pins σ Q) X.xe s
variable {X:Cx}
theorem PW.pt {e:Expr}{t:TT} (h:PW X e t):PT X e t:=h _
noncomputable def PA (X:Cx) (es:List Expr) (t:TA):Prop :=
 ∀(pos:Pos) (pins:List (Addr × Obj)) (s:d7) (σ:St) (H:Hp) (Q:List V->Hp->Prop),E6 X pins σ H s->t σ H Q->m6 (t8 X.prog X.w) X.A (spliced (aU pos (C4 es X.env))) (AP X pins σ Q) X.xe s
noncomputable def PS (X:Cx) (st:Stmt) (t:TS):Prop :=
 ∀(pins:List (Addr × Obj)) (s:d7) (σ:St) (H:Hp) (D:ju),E6 X pins σ H s->t D σ H->m6 (t8 X.prog X.w) X.A (exec st X.env) (SP X pins D) X.xe s
noncomputable def qI (X:Cx) (st:List Stmt) (t:TS):Prop :=
 ∀(pins:List (Addr × Obj)) (s:d7) (σ:St) (H:Hp) (D:ju),E6 X pins σ H s->t D σ H->m6 (t8 X.prog X.w) X.A (execs st X.env) (SP X pins D) X.xe s
variable {A:A5}{E:b9->d7->Prop}{s:d7}
theorem X0 {α:Type}{t:Sem α}{Q Q':α->d7->Prop}{M:lZ}(h:m6 M A t Q E s) (hQ:∀a s,Q a s->Q' a s):m6 M A t Q' E s:=K5 h hQ fun _ _ x=>x
section
variable {X:Cx}
noncomputable def T6 (i:Nat):TE:=fun σ H Q=>∃v,σ[i]?=some (some v)/\Q v H
noncomputable def tC (v:V):TE:=fun _ H Q=>Q v H
variable {x:Str}
theorem xX {i:Nat}{pos:Pos} (hN:X.N[i]?=some x) (hv:La X.env.scope x) (hd:(x == ("__debug__":Str))=false:=by decide) (hcd:(x == ("__classdict__":Str))=false:=by decide):PE X (.Name x pos) (T6 i):=by
 intro pins s σ H Q I h
 obtain ⟨v,e,h⟩:=h
 obtain ⟨m,hn,hl⟩:=I.loc
 obtain ⟨u,r,l⟩:=hl i x v hN e hv
 have fin:EP X pins σ Q u s:=⟨v,H,I,r,h⟩
 rcases l with ⟨hk,hm⟩|⟨hk,c,hc,hcell⟩
 ·exact Jp (wpAny_loadName_local I.ok.kind hk hn hm fin) hd
 ·rcases hk with hk|hk
  ·exact Jp (wpAny_loadName_cell I.ok.kind hk hc hcell fin) hd
  ·exact Jp (wpAny_loadName_free I.ok.kind hk hc hcell fin hcd) hd
theorem j0 {i j pos}:PE X (.Constant (.int i) j pos) (tC (.int i)):=fun _ _ _ H _ I h=>qL ⟨.int i,H,I.tok _,⟨_,rfl⟩,h⟩
theorem dF {b j pos}:PE X (.Constant (.bool b) j pos) (tC (.bl b)):=fun _ _ _ H _ I h=>Constant_bool ⟨.bl b,H,I,rfl,h⟩
theorem kC {j pos}:PE X (.Constant .none j pos) (tC .non):=fun _ _ _ H _ I h=>Constant_none ⟨.non,H,I,rfl,h⟩
theorem jh {x j pos}:PE X (.Constant (.str x) j pos) (tC (.str x)):=fun _ _ _ H _ I h=>BR ⟨.str x,H,I.tok _,⟨_,rfl⟩,h⟩
noncomputable def Gl (X:Cx) (x:Str):Prop:=X.env.kindOf x=some .globalImplicit
variable {u:b9}
theorem lI {E:b9->d7->Prop}{pins:List (Addr × Obj)}{s:d7}{σ:St}{H:Hp}{pos:Pos}{Q:b9->d7->Prop} (I:E6 X pins σ H s) (hg:Gl X x) (hm:X.mg x=some u) (h:Q u s)
  (hd:(x == ("__debug__":Str))=false:=by decide):m6 (t8 X.prog X.w) X.A (eval (.Name x pos) X.env) Q E s :=
 sW I.ok.kind hg (Calls.loadGlobal_global (by rw[I.ok.glob];exact I.mod.glob.keeps I.bk) hm h) hd
theorem mW {E:b9->d7->Prop}{pins:List (Addr × Obj)}{s:d7}{σ:St}{H:Hp}{pos:Pos}{Q:b9->d7->Prop} (I:E6 X pins σ H s) (hg:Gl X x) (hm:X.mg x=none) (hv:X4 x=some u) (h:Q u s)
  (hn:x≠"__name__":=by decide) (hd:(x == ("__debug__":Str))=false:=by decide):m6 (t8 X.prog X.w) X.A (eval (.Name x pos) X.env) Q E s:=by
 obtain ⟨mb,h1,h2⟩:=I.mod.blt
 exact sW I.ok.kind hg (Calls.loadGlobal_builtin (by rw[I.ok.glob];exact I.mod.glob.keeps I.bk) hm (by rw[I.ok.blt];exact h1.keeps I.bk) ((h2 x hn).trans hv) h) hd
theorem Z4 {v:V}{pos:Pos} (hg:Gl X x) (hm:X.mg x=some u) (r:Q4 v u) (hd:(x == ("__debug__":Str))=false:=by decide):PE X (.Name x pos) (tC v):=
 fun _ _ _ H _ I h=>lI I hg hm ⟨v,H,I,r,h⟩ hd
theorem EZ {v:V}{pos:Pos} (hg:Gl X x) (hm:X.mg x=none) (hv:X4 x=some u) (r:Q4 v u) (hn:x≠"__name__":=by decide) (hd:(x == ("__debug__":Str))=false:=by decide):PE X (.Name x pos) (tC v):=
 fun _ _ _ H _ I h=>mW I hg hm hv ⟨v,H,I,r,h⟩ hn hd
variable {a b:Expr}{ta tb:TE}{pos:Pos}
noncomputable def PC (X:Cx) (op:El) (a b:Expr) (t:TE):Prop :=
 ∀(pins:List (Addr × Obj)) (s:d7) (σ:St) (H:Hp) (Q:VK),E6 X pins σ H s->t σ H Q ->
  m6 (t8 X.prog X.w) X.A (eval a X.env) (fun v s₁=>m6 (t8 X.prog X.w) X.A (eval b X.env) (fun u s₂=>m6 (t8 X.prog X.w) X.A (T8 op v u) (EP X pins σ Q) X.xe s₂) X.xe s₁) X.xe s
theorem Dq (b:Expr) {op:El} (h:op≠.In) (h2:op≠.NotIn):cL op b=false:=by
 have e1:(op == CmpOp.In)=false:=by cases op <;> first|rfl|exact absurd rfl h
 have e2:(op == LC)=false:=by cases op <;> first|rfl|exact absurd rfl h2
 cases b <;> simp[cL,e1,e2]
noncomputable def tIsN (ta:TE):TE:=fun σ H Q=>ta σ H fun x H1=>Q (.bl (decide (x=.non))) H1
theorem Q4.none_iff {x:V}{v:b9} (r:Q4 x v):(v == E9)=decide (x=.non):=by
 cases x with
 | non=>cases r;rfl
 | bl _=>cases r;rfl
 | int _=>obtain ⟨t,rfl⟩:=r;rfl
 | str _=>obtain ⟨t,rfl⟩:=r;rfl
 | byt _=>obtain ⟨t,rfl⟩:=r;rfl
 | flt _=>obtain ⟨t,rfl⟩:=r;rfl
 | ref _=>cases r;rfl
 | ty _=>cases r;rfl
theorem HQ {j pos'} (ha:PE X a ta):PC X .Is a (.Constant .none j pos') (tIsN ta):=by
 intro pins s σ H Q I h
 refine X0 (ha pins s σ H _ I h) fun v s1 ⟨x,H1,I1,r1,q1⟩=>?_
 exact Constant_none (is_none_gen ⟨.bl _,H1,I1,by rw[r1.none_iff];rfl,q1⟩)
noncomputable def tB (t:TE):TT:=fun σ H Q=>t σ H fun x H1=>∃c,x=.bl c/\Q c H1
variable {t:TE}
theorem HI {op:El}(h:PC X op a b t) (h1:cL op b=false:=by first|exact Dq _ (by decide) (by decide)|rfl):PT X (.Compare a [op] [b] pos) (tB t):=by
 intro pins s σ H Q I hw
 refine FK (X0 (h pins s σ H _ I hw) fun v s1 h1=>X0 h1 fun u s2 h2=>X0 h2 fun c s3 ⟨x,H1,I1,r1,q1⟩=>?_) h1
 obtain ⟨d,rfl,q⟩:=q1
 cases r1
 exact N7 ⟨H1,I1,q⟩
theorem ar {e:Expr}(h:PE X e t) (he:∀whole,Jr e X.env whole=(do let v <- whole;standAt e.pos;Lu [v] (truthy v)):=by intro _;rfl):PT X e (tB t):=by
 intro pins s σ H Q I hw
 refine isTrue_plain (X0 (h pins s σ H _ I hw) fun v s1 ⟨x,H1,I1,r1,q1⟩=>?_) (he _)
 obtain ⟨d,rfl,q⟩:=q1
 cases r1
 exact N7 ⟨H1,I1,q⟩
variable {tA tB':TT}{gj:List Expr}
noncomputable def tOr (t u:TT):TT:=fun σ H Q=>t σ H fun c H1=>if c=true then Q true H1 else u σ H1 Q
noncomputable def tNot (t:TT):TT:=fun σ H Q=>t σ H fun c H1=>Q (!c) H1
theorem kz (ha:PT X a tA):PW X (.BoolOp .Or [a] pos) tA:=by
 intro wh pins s σ H Q I h
 refine isTrue_or (X0 (ha pins s σ H Q I h) fun c s1 e=>?_)
 cases c with
 | false=>exact isTrue_or_nil e
 | true=>exact e
theorem pL (ha:PT X a tA) (hb:PW X (.BoolOp .Or (b::gj) pos) tB'):PW X (.BoolOp .Or (a::b::gj) pos) (tOr tA tB'):=by
 intro wh pins s σ H Q I h
 refine isTrue_or (X0 (ha pins s σ H _ I h) fun c s1 ⟨H1,I1,q1⟩=>?_)
 cases c with
 | true=>exact ⟨H1,I1,q1⟩
 | false=>exact hb wh pins s1 σ H1 Q I1 q1
theorem bo (ha:PT X a tA):PT X (.UnaryOp .Not a pos) (tNot tA):=by
 intro pins s σ H Q I h
 exact isTrue_not (ha pins s σ H (fun c H1=>Q (!c) H1) I h)
noncomputable def Ga (ta tb:TE):TE:=fun σ H Q=>ta σ H fun x H1=>∃c,x=.bl c/\if c=true then tb σ H1 Q else Q (.bl false) H1
noncomputable def tOrV (ta tb:TE):TE:=fun σ H Q=>ta σ H fun x H1=>∃c,x=.bl c/\if c=true then Q (.bl true) H1 else tb σ H1 Q
noncomputable def JK (ta:TE):TE:=fun σ H Q=>ta σ H fun x H1=>∃c,x=.bl c/\Q (.bl (!c)) H1
theorem cP {op}(h:PE X a t):PE X (.BoolOp op [a] pos) t:=fun pins s σ H Q I hw=>BoolOp_one (h pins s σ H Q I hw)
theorem dR (ha:PE X a ta) (hb:PE X (.BoolOp .And (b::gj) pos) tb):PE X (.BoolOp .And (a::b::gj) pos) (Ga ta tb):=by
 intro pins s σ H Q I h
 refine BoolOp_and (X0 (ha pins s σ H _ I h) fun v s1 ⟨x,H1,I1,r1,q1⟩=>?_)
 obtain ⟨c,rfl,q1⟩:=q1
 cases r1
 refine N7 ?_
 cases c with
 | true=>exact hb pins s1 σ H1 Q I1 q1
 | false=>exact ⟨.bl false,H1,I1,rfl,q1⟩
theorem Km (ha:PE X a ta) (hb:PE X (.BoolOp .Or (b::gj) pos) tb):PE X (.BoolOp .Or (a::b::gj) pos) (tOrV ta tb):=by
 intro pins s σ H Q I h
 refine BoolOp_or (X0 (ha pins s σ H _ I h) fun v s1 ⟨x,H1,I1,r1,q1⟩=>?_)
 obtain ⟨c,rfl,q1⟩:=q1
 cases r1
 refine N7 ?_
 cases c with
 | false=>exact hb pins s1 σ H1 Q I1 q1
 | true=>exact ⟨.bl true,H1,I1,rfl,q1⟩
theorem ud (ha:PE X a ta):PE X (.UnaryOp .Not a pos) (JK ta):=by
 intro pins s σ H Q I h
 refine UnaryOp_ (X0 (ha pins s σ H _ I h) fun v s1 ⟨x,H1,I1,r1,q1⟩=>?_)
 obtain ⟨c,rfl,q1⟩:=q1
 cases r1
 exact not_of (N7 ⟨.bl (!c),H1,I1,rfl,q1⟩)
end
noncomputable def eV (K:m9) (H:Hp) (a:Addr) (xs:List V):Prop :=
 Rd H a (.lst xs) ∨
  ∃(o:Obj) (its:Array b9) (n:Nat),K.lookup a=some o/\o.cls=.type "list"/\o.dict=none/\o.data=.seq its n/\its.size<=i6/\M9 xs its.toList
noncomputable def dH (K:m9) (H:Hp) (a:Addr) (xs:List V):Prop :=
 Rd H a (.tup xs) ∨
  ∃(o:Obj) (its:Array b9) (n:Nat),K.lookup a=some o/\o.cls=.type "tuple"/\o.data=.seq its n/\its.size<=i6/\M9 xs its.toList
noncomputable def absV:b9->Option V
 | .none=>some .non
 | .bool b=>some (.bl b)
 | .int i _=>some (.int i)
 | .str x _=>some (.str x)
 | .bytes b _=>some (.byt b)
 | .float b _=>some (.flt b)
 | .ref a=>some (.ref a)
 | .type n=>some (.ty n)
 | _=>none
variable {u:b9}
theorem Q4.abs {x:V}(r:Q4 x u):absV u=some x:=by
 cases x with
 | non=>cases r;rfl
 | bl _=>cases r;rfl
 | int _=>obtain ⟨t,rfl⟩:=r;rfl
 | str _=>obtain ⟨t,rfl⟩:=r;rfl
 | byt _=>obtain ⟨t,rfl⟩:=r;rfl
 | flt _=>obtain ⟨t,rfl⟩:=r;rfl
 | ref _=>cases r;rfl
 | ty _=>cases r;rfl
theorem Q4.inj {x y:V}(r:Q4 x u) (q:Q4 y u):x=y:=E7 (r.abs.symm.trans q.abs)
theorem M9.inj:∀{xs ys:List V}{us:List b9},M9 xs us->M9 ys us->xs=ys
 | _,_,_,.nil,.nil=>rfl
 | _,_,_,.cons r t,.cons r' t'=>by rw[r.inj r',M9.inj t t']
section
variable {X:Cx}{pins:List (Addr × Obj)}{σ:St}{H:Hp}{s:d7}{a:Addr}{xs ys:List V}
theorem eV.of {K:m9} (h:H a=some (.lst xs)):eV K H a xs:=.inl (.inl h)
theorem dH.of {K:m9} (h:H a=some (.tup xs)):dH K H a xs:=.inl (.inl h)
theorem E6.list (I:E6 X pins σ H s) (h:eV X.K H a xs):∃its:List b9,M9 xs its/\PlainL s.heap a its.toArray/\xs.length<=i6:=by
 rcases h with h|⟨o,its,n,hk,hc,hd,hs,hz,r⟩
 ·obtain ⟨z,its,n,r,e⟩:=h.ok I.hok
  exact ⟨its,r,⟨_,n,e,rfl,rfl,rfl⟩,z⟩
 ·refine ⟨its.toList,r,⟨o,n,I.kIn a o hk,hc,hd,by simpa using hs⟩,?_⟩
  have e:=r.length
  simp only[G2] at e
  lia
theorem E6.tuple (I:E6 X pins σ H s) (h:dH X.K H a xs):∃its:List b9,M9 xs its/\Ao s.heap a its.toArray/\xs.length<=i6:=by
 rcases h with h|⟨o,its,n,hk,hc,hs,hz,r⟩
 ·obtain ⟨z,its,r,p⟩:=h.ok I.hok
  exact ⟨its,r,p,z⟩
 ·refine ⟨its.toList,r,⟨o,I.kIn a o hk,hc,n,by simpa using hs⟩,?_⟩
  have e:=r.length
  simp only[G2] at e
  lia
theorem E6.list_inj (I:E6 X pins σ H s) (h:eV X.K H a xs) (h':eV X.K H a ys):xs=ys:=by
 obtain ⟨its,r,⟨o,n,e,_,_,d⟩,_⟩:=I.list h
 obtain ⟨its',r',⟨o',n',e',_,_,d'⟩,_⟩:=I.list h'
 rw[e] at e';cases e'
 rw[d] at d'
 injection d' with d1 _
 have:its=its':=by simpa using congrArg JE d1
 subst this
 exact r.inj r'
theorem E6.tuple_inj (I:E6 X pins σ H s) (h:dH X.K H a xs) (h':dH X.K H a ys):xs=ys:=by
 obtain ⟨its,r,⟨o,e,_,n,d⟩,_⟩:=I.tuple h
 obtain ⟨its',r',⟨o',e',_,n',d'⟩,_⟩:=I.tuple h'
 rw[e] at e';cases e'
 rw[d] at d'
 injection d' with d1 _
 have:its=its':=by simpa using congrArg JE d1
 subst this
 exact r.inj r'
end
noncomputable abbrev Cx.wish (X:Cx) (E:b9->d7->Prop):Cx:={ X with xe:=E }
noncomputable abbrev Cx.nox (X:Cx):Cx:=X.wish fun _ _=>False
theorem Cx.Ok.wish {X:Cx} (ok:X.Ok) (E:b9->d7->Prop):(X.wish E).Ok :=
 ⟨ok.mod,ok.kind,ok.glob,ok.blt,ok.above,ok.inj,ok.has,ok.cab,ok.hd,ok.frames,ok.stk,ok.exf,ok.bs,ok.bsz,ok.noex,ok.exfs,ok.funs,ok.frf⟩
theorem Cx.Ok.unwish (ok:(X.wish E).Ok):X.Ok :=
 ⟨ok.mod,ok.kind,ok.glob,ok.blt,ok.above,ok.inj,ok.has,ok.cab,ok.hd,ok.frames,ok.stk,ok.exf,ok.bs,ok.bsz,ok.noex,ok.exfs,ok.funs,ok.frf⟩
section
variable {X:Cx}{pins:List (Addr × Obj)}{σ:St}{H:Hp}{s:d7}{E:b9->d7->Prop}
theorem E6.wish (I:E6 X pins σ H s) (E:b9->d7->Prop):E6 (X.wish E) pins σ H s:=⟨I.ok.wish E,I.os,I.bare,I.base,I.loc,I.cell,I.free,I.freeC,I.pin,I.hok,I.len⟩
theorem E6.unwish (I:E6 (X.wish E) pins σ H s):E6 X pins σ H s:=⟨I.ok.unwish,I.os,I.bare,I.base,I.loc,I.cell,I.free,I.freeC,I.pin,I.hok,I.len⟩
theorem SP.unwish {D:ju}{f:Flow}{s':d7} (h:SP (X.wish E) pins D f s'):SP X pins D f s':=by
 cases f with
 | next=>obtain ⟨σ',H',I,q⟩:=h;exact ⟨σ',H',I.unwish,q⟩
 | brk=>obtain ⟨σ',H',I,q⟩:=h;exact ⟨σ',H',I.unwish,q⟩
 | cont=>obtain ⟨σ',H',I,q⟩:=h;exact ⟨σ',H',I.unwish,q⟩
 | ret u=>obtain ⟨v,σ',H',I,r,q⟩:=h;exact ⟨v,σ',H',I.unwish,r,q⟩
theorem qI.nox {st:List Stmt}{t:TS} (h:qI X.nox st t):qI X st t:=fun pins s σ H D I hw =>
 K5 (h pins s σ H D (I.wish _) hw) (fun _ _ q=>q.unwish) fun _ _ z=>G8 z
end
section
variable {X:Cx}{st:Stmt}{gj:List Stmt}{t u:TS}{e:Expr}{te:TE}{pos:Pos}
noncomputable def JL:TS:=fun D σ H=>D.nx σ H
noncomputable def iO (t u:TS):TS:=fun D σ H=>t { D with nx:=u D } σ H
theorem K9:qI X [] JL:=fun _ _ σ H _ I h=>cW ⟨σ,H,I,h⟩
theorem m7 (h1:PS X st t) (h2:qI X gj u):qI X (st::gj) (iO t u):=by
 intro pins s σ H D I h
 refine uW (X0 (h1 pins s σ H { D with nx:=u D } I h) fun f s1 q=>?_)
 cases f with
 | next =>
  obtain ⟨σ',H',I',q⟩:=q
  exact h2 pins s1 σ' H' D I' q
 | ret v=>exact q
 | brk=>exact q
 | cont=>exact q
theorem t6 (h1:PS X st t):qI X [st] t:=by
 intro pins s σ H D I h
 refine uW (X0 (h1 pins s σ H D I h) fun f s1 q=>?_)
 cases f with
 | next=>exact cW q
 | ret v=>exact q
 | brk=>exact q
 | cont=>exact q
theorem E6.quiet {pins:List (Addr × Obj)}{σ:St}{H:Hp}{s:d7} (I:E6 X pins σ H s):interactive X.env=false:=by simp[interactive,I.ok.kind]
noncomputable def JO (te:TE):TS:=fun D σ H=>te σ H fun _ H1=>D.nx σ H1
theorem fI (he:PE X e te) (hs:om e none pos.line X.env=pure false:=by rfl):PS X (.Expr e pos) (JO te):=by
 intro pins s σ H D I h
 exact wpAny_Expr_any (X0 (he pins s σ H _ I h) fun v s1 ⟨x,H1,I1,r1,q1⟩=>⟨σ,H1,I1,q1⟩) I.quiet hs
noncomputable def GI (te:TE):TS:=fun D σ H=>te σ H D.rt
theorem D7 (he:PE X e te):PS X (.Return (some e) pos) (GI te):=by
 intro pins s σ H D I h
 exact wpAny_Return_some (X0 (he pins s σ H _ I h) fun v s1 ⟨x,H1,I1,r1,q1⟩=>⟨x,σ,H1,I1,r1,q1⟩)
noncomputable def tIfS (c:TT) (t u:TS):TS:=fun D σ H=>c σ H fun b H1=>if b=true then t D σ H1 else u D σ H1
theorem V6 {c:Expr}{a b:List Stmt}{tc:TT} (hc:PT X c tc) (ha:qI X a t) (hb:qI X b u):PS X (.If c a b pos) (tIfS tc t u):=by
 intro pins s σ H D I h
 refine wpAny_If (X0 (hc pins s σ H _ I h) fun d s1 ⟨H1,I1,q1⟩=>?_)
 cases d with
 | true=>exact ha pins s1 σ H1 D I1 q1
 | false=>exact hb pins s1 σ H1 D I1 q1
noncomputable def GL:TS:=fun _ _ _=>False
theorem rN {sts:List Stmt}:qI X sts GL:=fun _ _ _ _ _ _ h=>h.elim
end
noncomputable abbrev TG:=V->St->Hp->(St->Hp->Prop)->Prop
noncomputable abbrev Gj:=List V->St->Hp->(St->Hp->Prop)->Prop
noncomputable def PG (X:Cx) (target:Expr) (t:TG):Prop :=
 ∀(pins:List (Addr × Obj)) (s:d7) (σ:St) (H:Hp) (v:V) (u:b9) (Q:St->Hp->Prop),E6 X pins σ H s->Q4 v u->t v σ H Q ->
  m6 (t8 X.prog X.w) X.A (qN target X.env u) (fun _ s'=>∃σ' H',E6 X pins σ' H' s'/\Q σ' H') X.xe s
noncomputable def Ld (X:Cx) (ts:List Expr) (t:Gj):Prop :=
 ∀(pins:List (Addr × Obj)) (s:d7) (σ:St) (H:Hp) (vs:List V) (us:List b9) (Q:St->Hp->Prop),E6 X pins σ H s->M9 vs us->t vs σ H Q ->
  m6 (t8 X.prog X.w) X.A (jE ((ft ts X.env).map (·.2)) us) (fun _ s'=>∃σ' H',E6 X pins σ' H' s'/\Q σ' H') X.xe s
noncomputable abbrev IB:=V->V->V->Hp->(Hp->Prop)->Prop
noncomputable def Lc (X:Cx) (t:IB):Prop :=
 ∀(pins:List (Addr × Obj)) (s:d7) (σ:St) (H:Hp) (o i v:V) (ov iv u:b9) (Q:Hp->Prop),E6 X pins σ H s->Q4 o ov->Q4 i iv->Q4 v u->t o i v H Q ->
  m6 (t8 X.prog X.w) X.A (setItem ov iv u) (fun _ s'=>∃H',E6 X pins σ H' s'/\Q H') X.xe s
section
variable {X:Cx}{pos:Pos}
noncomputable def V7 (i:Nat):TG:=fun v σ H Q=>Q (σ.set i (some v)) H
theorem T7 {i:Nat}{x:Str} (hN:X.N.Nodup) (hi:X.N[i]?=some x) (hx:Lf X.env.scope x) (hf:X.fn x=true ∨ X.env.scope.names.lookup x=some .local:=by first|exact .inl rfl|exact .inr rfl|assumption):PG X (.Name x pos) (V7 i):=by
 intro pins s σ H v u Q I r h
 exact Lq (cf I hN hi hx r (fun s' I'=>⟨_,H,I',h⟩) hf)
noncomputable def rj:Gj:=fun vs σ H Q=>vs=[]/\Q σ H
noncomputable def bP (t:TG) (u:Gj):Gj:=fun vs σ H Q=>∃v r,vs=v::r/\t v σ H fun σ' H'=>u r σ' H' Q
theorem Z3:Ld X [] rj:=by
 intro pins s σ H vs us Q I r h
 obtain ⟨e,h⟩:=h
 subst e
 cases r
 exact sN ⟨σ,H,I,h⟩
theorem G0 {e:Expr}{es:List Expr}{t:TG}{u:Gj} (h1:PG X e t) (h2:Ld X es u)
  (hs:(ft (e::es) X.env).map (·.2)=qN e X.env::(ft es X.env).map (·.2):=by rfl):Ld X (e::es) (bP t u):=by
 intro pins s σ H vs us Q I r h
 obtain ⟨v,vr,e1,h⟩:=h
 subst e1
 cases r with
 | cons r rr =>
  rw[hs]
  refine aV (X0 (h1 pins s σ H _ _ _ I r h) fun _ s1 ⟨σ1,H1,I1,q1⟩=>?_)
  exact h2 pins s1 σ1 H1 _ _ Q I1 rr q1
noncomputable def qi (K:m9) (n:Nat) (t:Gj):TG:=fun v σ H Q=>∃a xs,v=.ref a/\dH K H a xs/\xs.length=n/\t xs σ H Q
theorem mO {es:List Expr}{k:Nat}{t:Gj}{n:Nat} (hc:X.calm=true) (h:Ld X es t)
  (hn:(ft es X.env).length=n:=by rfl) (hst:(ft es X.env).findIdx? (·.1)=none:=by rfl):PG X (.Tuple es k pos) (qi X.K n t):=by
 intro pins s σ H v u Q I r hw
 obtain ⟨a,xs,e1,hq,hl,hw⟩:=hw
 subst e1
 cases r
 obtain ⟨its,rv,ht,hz⟩:=I.tuple hq
 refine assign_Tuple_tuple (I.ok.hd hc) ht (by simp[hn,<- hl,rv.length]) hst fun h' hx=>?_
 have I1:E6 X pins σ H { s with heap:=h' }:=I.kept (t':=s.toks) fun b o e=>hx b o (v8 (j7 e)) e
 exact h pins _ σ H xs _ Q I1 (by simpa using rv) hw
noncomputable def gSub (to ti:TE) (t:IB):TG:=fun v σ H Q=>to σ H fun o H1=>ti σ H1 fun i H2=>t o i v H2 fun H3=>Q σ H3
theorem tZ {o i:Expr}{to ti:TE}{t:IB} (ho:PE X o to) (hi:PE X i ti) (hs:Lc X t)
  (ha:∀v,qN (.Subscript o i pos) X.env v=(do
   let ov <- Lu [v] (eval o X.env)
   let iv <- Lu [v,ov] (eval i X.env)
   standAt pos
   Lu [v,ov,iv] (setItem ov iv v)
   release [v,ov,iv] []):=by intro _;rfl):PG X (.Subscript o i pos) (gSub to ti t):=by
 intro pins s σ H v u Q I r h
 rw[ha]
 refine b8 (P9 (X0 (ho pins s σ H _ I h) fun ov s1 ⟨x,H1,I1,r1,q1⟩=>?_))
 refine b8 (P9 (X0 (hi pins s1 σ H1 _ I1 q1) fun iv s2 ⟨y,H2,I2,r2,q2⟩=>?_))
 refine b8 (fA (b8 (P9 (X0 (hs pins s2 σ H2 x y v ov iv u _ I2 r1 r2 r q2) fun _ s3 ⟨H3,I3,q3⟩=>?_))))
 exact wpAny_release ⟨σ,H3,I3,q3⟩
noncomputable def GN (te:TE) (g:TG):TS:=fun D σ H=>te σ H fun x H1=>g x σ H1 D.nx
theorem pM {tg e:Expr}{te:TE}{g:TG} (he:PE X e te) (hg:PG X tg g) (hs:BD [tg] e pos.line X.env=pure false:=by rfl) (hw:qB [tg] e X.env=pure none:=by rfl)
  (h1:(ft [tg] X.env).map (·.2)=[qN tg X.env]:=by rfl):PS X (.Assign [tg] e pos) (GN te g):=by
 intro pins s σ H D I h
 refine wpAny_Assign_stores (X0 (he pins s σ H _ I h) fun v s1 ⟨x,H1,I1,r1,q1⟩=>?_) hs hw
 rw[h1]
 exact X0 (hg pins s1 σ H1 x v _ I1 r1 q1) fun _ s2 q=>q
theorem F9 {i:Nat}{x:Str}{e:Expr}{te:TE}{pos':Pos} (hN:X.N.Nodup) (hi:X.N[i]?=some x) (hx:Lf X.env.scope x) (he:PE X e te) (hs:om e (some (.Name x pos')) pos.line X.env=pure false:=by rfl) (hf:X.fn x=true ∨ X.env.scope.names.lookup x=some .local:=by first|exact .inl rfl|exact .inr rfl|assumption):
  PS X (.Assign [.Name x pos'] e pos) (GN te (V7 i)):=by
 intro pins s σ H D I h
 refine wpAny_Assign_Name (X0 (he pins s σ H _ I h) fun v s1 ⟨y,H1,I1,r1,q1⟩=>?_) hs
 exact cf I1 hN hi hx r1 (fun s2 I2=>⟨_,H1,I2,q1⟩) hf
noncomputable def tPar (i j:Nat) (ta:TA):TS:=fun D σ H=>ta σ H fun vs H1=>∃v w,vs=[v,w]/\D.nx ((σ.set i (some v)).set j (some w)) H1
theorem kB {i j:Nat}{x y:Str}{a b:Expr}{ta:TA}{px py pt:Pos}{kt k2 pt2} (hc:X.calm=true) (hN:X.N.Nodup) (hi:X.N[i]?=some x) (hj:X.N[j]?=some y) (hij:i≠j)
  (hx:X.env.scope.names.lookup x=some .local) (hy:X.env.scope.names.lookup y=some .local) (ha:PA X [a,b] ta)
  (hw:qB [.Tuple [.Name x px,.Name y py] kt pt] (.Tuple [a,b] k2 pt2) X.env=pure (some [x,y]))
  (hs:BD [.Tuple [.Name x px,.Name y py] kt pt] (.Tuple [a,b] k2 pt2) pos.line X.env=pure false:=by rfl):
  PS X (.Assign [.Tuple [.Name x px,.Name y py] kt pt] (.Tuple [a,b] k2 pt2) pos) (tPar i j ta):=by
 intro pins s σ H D I h
 rw[exec_Assign_arm]
 refine b8 (fA ?_)
 rw[hs]
 refine b8 (d9 ?_)
 rw[if_neg (by decide)]
 refine b8 (Tuple_ (X0 (ha _ pins s σ H _ I h) fun us s1 ⟨vs,H1,I1,r1,q1⟩=>?_))
 obtain ⟨v,w,e1,q1⟩:=q1
 subst e1
 obtain ⟨u1,u2,rfl,rv,rw'⟩:∃u1 u2,us=[u1,u2]/\Q4 v u1/\Q4 w u2:=by
  cases r1 with
  | cons p q =>
   cases q with
   | cons p' q' =>
    cases q'
    exact ⟨_,_,rfl,p,p'⟩
 refine E4 ?_ (by show 2<=i6;decide)
 have I2:E6 X pins σ H1 { s1 with heap:=s1.heap.push { cls:=.type "tuple",data:=.seq [u1,u2].toArray } }:=I1.kept (t':=s1.toks) fun b o e=>f9 _ e
 rw[hw]
 refine b8 (d9 ?_)
 show m6 (t8 X.prog X.w) X.A (do rule "assign.swapped-stores";let items <- unpackItems (.ref s1.heap.objs.size) 2 none;jE [fun v=>dZ X.env y v,fun v=>dZ X.env x v] items.reverse;pure xt) _ _ _
 refine b8 (P1 (b8 (Lr (items:=#[u1,u2]) (I.ok.hd hc) (fC s1.heap _) fun h' hx'=>?_)))
 have I3:=I2.kept (h':=h') (t':=s1.toks) fun b o e=>hx' b o (v8 (j7 e)) e
 show m6 _ _ (jE [fun v=>dZ X.env y v,fun v=>dZ X.env x v] [u2,u1] >>= fun _=>pure xt) _ _ _
 refine b8 (aV (dW (cf I3 hN hj (.inl hy) rw' (fun s2 I4=>?_) (.inr hy))))
 refine aV (dW (cf I4 hN hi (.inl hx) rv (fun s3 I5=>sN (d9 ?_)) (.inr hx)))
 rw[ml _ _ (J9 hij)] at I5
 exact ⟨_,H1,I5,q1⟩
noncomputable def GH (c:TT) (tb:TS):TS:=fun D σ H=>∃W:Nat->St->Hp->Prop,(∃m,W m σ H)/\∀m σ H,W m σ H ->
 c σ H fun b H1=>if b=true then ∃N:St->Hp->Prop,(∀σ' H',N σ' H'->∃m',m'<m/\W m' σ' H')/\tb { D with nx:=N,ct:=N,bk:=D.nx } σ H1 else D.nx σ H1
theorem vM {c:Expr}{body:List Stmt}{tc:TT}{tb:TS} (hp:PassesOwn (t8 X.prog X.w) X.A X.env X.xe) (hc:PT X c tc) (hb:qI X body tb):PS X (.While c body [] pos) (GH tc tb):=by
 intro pins s σ H D I h
 obtain ⟨W,⟨m0,w0⟩,turn⟩:=h
 refine wpAny_While (codeAny_whileLoop (fun n s'=>∃σ' H',E6 X pins σ' H' s'/\W n σ' H') ?_ m0 ⟨σ,H,I,w0⟩)
 rintro n s1 ⟨σ1,H1,I1,w1⟩
 refine bh hp (X0 (hc pins s1 σ1 H1 _ I1 (turn n σ1 H1 w1)) fun b s2 ⟨H2,I2,q2⟩=>?_)
 cases b with
 | true =>
  obtain ⟨N,hN,q2⟩:=q2
  rw[if_pos rfl]
  refine bh hp (X0 (hb pins s2 σ1 H2 _ I2 q2) fun f s3 q3=>?_)
  cases f with
  | next =>
   obtain ⟨σ3,H3,I3,n3⟩:=q3
   obtain ⟨m',hm,w3⟩:=hN σ3 H3 n3
   exact ⟨m',hm,σ3,H3,I3,w3⟩
  | cont =>
   obtain ⟨σ3,H3,I3,n3⟩:=q3
   obtain ⟨m',hm,w3⟩:=hN σ3 H3 n3
   exact ⟨m',hm,σ3,H3,I3,w3⟩
  | brk=>exact q3
  | ret v=>exact q3
 | false =>
  rw[if_neg A0]
  exact cW ⟨σ1,H2,I2,q2⟩
end
structure It where
 go:Nat->Hp->Prop
 yld:Nat->Hp->V->Hp->Prop
 stop:Nat->Hp->Prop
noncomputable def oj (X:Cx) (pins:List (Addr × Obj)) (H:Hp) (b:Addr):Prop :=
 H b=none/\b≠X.env.locals/\b ∉ X.fs/\(b∈X.ex ∨ X.s₀.heap.objs.size<=b)/\(∀x c,X.env.cells.lookup x=some c->c≠b)/\∀p∈X.pn++pins,p.1≠b
variable {σ:St}
theorem E6.fpOk {pins:List (Addr × Obj)}{H':Hp}(I:E6 X pins σ H s) (hb:s.heap.objs.size<=b) (hn:H' b=none):oj X pins H' b:=by
 refine ⟨hn,F6 (B5 I.lt hb),I.nofs hb,.inr (n6 I.sz hb),fun x c e z=>?_,fun p hp z=>?_⟩
 ·obtain ⟨v,q⟩:=I.cell x c e
  exact absurd (B5 q.lt (by rw[z];exact hb)) (Z0 _)
 ·exact absurd (B5 (j7 (I.pin p hp).1) (by rw[z];exact hb)) (Z0 _)
structure uG (P:j6) (w:r9) (K:m9) (tg:Expr) (J:It) (fp:List Addr) (it:Addr) (tn:Nat->Heap->Prop):Prop where
 mem:it∈fp
 obj:∀i h,tn i h->∀b∈fp,∃o,h.get? b=some o/\∀v,o.data≠.cell v
 keep:∀i h h',tn i h->(∀b∈fp,∀o,h.get? b=some o->h'.get? b=some o)->tn i h'
 item:∀(X:Cx),X.prog=P->X.w=w->X.K=K->X.calm=true->∀(i:Nat) (pins:List (Addr × Obj)) (s:d7) (σ:St) (H:Hp) (E:b9->d7->Prop),E6 X pins σ H s->(∀b∈fp,oj X pins H b)->tn i s.heap->J.go i H ->
  m6 (t8 P w) X.A (bQ (.ref it)) (fun r s1=>∃u,r=some u /\
   m6 (t8 P w) X.A (lY tg (.ref it) u) (fun _ s2=>∃x H',E6 X pins σ H' s2/\Q4 x u/\J.yld i H x H'/\tn (i+1) s2.heap/\∀b∈fp,H' b=none) E s1) E s
 done:∀(X:Cx),X.prog=P->X.w=w->X.K=K->X.calm=true->∀(i:Nat) (pins:List (Addr × Obj)) (s:d7) (σ:St) (H:Hp) (E:b9->d7->Prop),E6 X pins σ H s->(∀b∈fp,oj X pins H b)->tn i s.heap->J.stop i H ->
  m6 (t8 P w) X.A (bQ (.ref it)) (fun r s1=>r=none/\E6 X pins σ H s1) E s
 self:∀(A:A5) (i:Nat) (s:d7) (Q:b9->d7->Prop) (E:b9->d7->Prop),tn i s.heap->Q (.ref it) s->m6 (t8 P w) A (nX (.ref it)) Q E s
noncomputable abbrev TI:=St->Hp->(It->Hp->Prop)->Prop
noncomputable def LI (X:Cx) (pins:List (Addr × Obj)) (σ:St) (tg:Expr) (R:It->Hp->Prop) (itv:b9) (s2:d7):Prop :=
 ∃(it:Addr) (fp:List Addr) (tn:Nat->Heap->Prop) (J:It) (H':Hp),itv=.ref it/\E6 X pins σ H' s2/\uG X.prog X.w X.K tg J fp it tn/\tn 0 s2.heap/\(∀b∈fp,oj X pins H' b)/\R J H'
noncomputable def PI (X:Cx) (tg iter:Expr) (wi:TI):Prop :=
 ∀(pins:List (Addr × Obj)) (s:d7) (σ:St) (H:Hp) (R:It->Hp->Prop),E6 X pins σ H s->wi σ H R ->
  m6 (t8 X.prog X.w) X.A (eval iter X.env) (fun v s1=>m6 (t8 X.prog X.w) X.A (nX v) (LI X pins σ tg R) X.xe s1) X.xe s
variable {tg:Expr}
theorem DG {M:lZ}{it:Addr}{o:Obj}{n:String}{vs:Array b9}{Q:Unit->d7->Prop} (ho:s.heap.get? it=some o) (hc:o.cls=.type n) (hd:o.data=.fields vs)
  (hn:["enumerate","zip","dict_itemiterator","dict_reverseitemiterator","odict_iterator","itertools.zip_longest","itertools.pairwise"].contains n=false) (hQ:Q () s):m6 M A (lY tg (.ref it) u) Q E s:=by
 unfold lY
 cases tg <;> first
  | exact d9 hQ
  | (cases u <;> first
    | exact d9 hQ
    | (refine b8 (wpAny_load ho ?_)
       rw[hc,hd]
       show m6 M A (if (["enumerate","zip","dict_itemiterator","dict_reverseitemiterator","odict_iterator","itertools.zip_longest","itertools.pairwise"].contains n&&vs[0]? == some (X3 _))=true then _ else _) Q E s
       rw[if_neg (by intro h;rw[hn,O3] at h;cases h)]
       exact d9 hQ))
noncomputable def Gm (K:m9) (a:Addr):It :=
 ⟨fun i H=>∃xs x,eV K H a xs/\xs[i]?=some x,fun i H x H'=>H'=H/\∀xs,eV K H a xs->xs[i]?=some x,fun i H=>∃xs,eV K H a xs/\xs.length<=i⟩
noncomputable def Jn (K:m9) (a:Addr):It :=
 ⟨fun i H=>∃xs x,dH K H a xs/\xs[i]?=some x,fun i H x H'=>H'=H/\∀xs,dH K H a xs->xs[i]?=some x,fun i H=>∃xs,dH K H a xs/\xs.length<=i⟩
noncomputable def IJ (lo:Int) (n:Nat):It:=⟨fun i _=>i<n,fun i H x H'=>H'=H/\x=.int (lo+i),fun i _=>n<=i⟩
variable {K:m9}
theorem Au (a it:Addr):uG P w K tg (Gm K a) [it] it (fun i h=>h.IsListIter it a i) where
 mem:=by simp
 obj:=fun i h st b hb=>by
  have e:b=it:=by simpa using hb
  subst e
  obtain ⟨o,e,c,d⟩:=st
  exact ⟨o,e,fun v z=>by rw[d] at z;cases z⟩
 keep:=fun i h h' st k=>st.at fun o e=>k it (by simp) o e
 item:=by
  intro X hP hw hK hc i pins s σ H E I hf st hg
  subst hP hw hK
  obtain ⟨xs,x,hq,hx⟩:=hg
  obtain ⟨its,rv,p,hz⟩:=I.list hq
  obtain ⟨u,hu,ru⟩:=rv.get hx
  obtain ⟨f0,f1,f2,f3,f4,f5⟩:=hf it (by simp)
  refine wpAny_pyNext_list_item st p.isList (x:=u) (by simpa using hu) fun h' st' sb=>?_
  have I1:E6 X pins σ H { s with heap:=h' }:=I.turned (t':=s.toks) (fun b o hb e=>(sb.2 b hb).trans e) f0 f1 f3 f4 f5
  obtain ⟨o,e,c,d⟩:=id st'
  exact ⟨u,rfl,DG (s:={ s with heap:=h' }) e c d (by decide) ⟨x,H,I1,ru,⟨rfl,fun ys hy=>by rw[I.list_inj hy hq];exact hx⟩,st',fun b hb=>(hf b hb).1⟩⟩
 done:=by
  intro X hP hw hK hc i pins s σ H E I hf st hg
  subst hP hw hK
  obtain ⟨xs,hq,hx⟩:=hg
  obtain ⟨its,rv,p,hz⟩:=I.list hq
  obtain ⟨f0,f1,f2,f3,f4,f5⟩:=hf it (by simp)
  have hl:=rv.length
  exact wpAny_pyNext_list_end (I.ok.hd hc) st p.isList (by simp;lia) fun h' eb=>⟨rfl,I.turned (t':=s.toks) (fun b o hb e=>eb b o hb e) f0 f1 f3 f4 f5⟩
 self:=fun _ _ _ _ _ st h=>wpAny_pyIter_listiter st h
theorem xw (a it:Addr):uG P w K tg (Jn K a) [it] it (fun i h=>h.IsTupleIter it a i) where
 mem:=by simp
 obj:=fun i h st b hb=>by
  have e:b=it:=by simpa using hb
  subst e
  obtain ⟨o,e,c,d⟩:=st
  exact ⟨o,e,fun v z=>by rw[d] at z;cases z⟩
 keep:=fun i h h' st k=>st.at fun o e=>k it (by simp) o e
 item:=by
  intro X hP hw hK hc i pins s σ H E I hf st hg
  subst hP hw hK
  obtain ⟨xs,x,hq,hx⟩:=hg
  obtain ⟨its,rv,p,hz⟩:=I.tuple hq
  obtain ⟨u,hu,ru⟩:=rv.get hx
  obtain ⟨f0,f1,f2,f3,f4,f5⟩:=hf it (by simp)
  refine wpAny_pyNext_tuple_item st (show s.heap.IsTuple a its.toArray from p) (x:=u) (by simpa using hu) fun h' st' sb=>?_
  have I1:E6 X pins σ H { s with heap:=h' }:=I.turned (t':=s.toks) (fun b o hb e=>(sb.2 b hb).trans e) f0 f1 f3 f4 f5
  obtain ⟨o,e,c,d⟩:=id st'
  exact ⟨u,rfl,DG (s:={ s with heap:=h' }) e c d (by decide) ⟨x,H,I1,ru,⟨rfl,fun ys hy=>by rw[I.tuple_inj hy hq];exact hx⟩,st',fun b hb=>(hf b hb).1⟩⟩
 done:=by
  intro X hP hw hK hc i pins s σ H E I hf st hg
  subst hP hw hK
  obtain ⟨xs,hq,hx⟩:=hg
  obtain ⟨its,rv,p,hz⟩:=I.tuple hq
  obtain ⟨f0,f1,f2,f3,f4,f5⟩:=hf it (by simp)
  have hl:=rv.length
  exact wpAny_pyNext_tuple_end (I.ok.hd hc) st (show s.heap.IsTuple a its.toArray from p) (by simp;lia) fun h' eb=>⟨rfl,I.turned (t':=s.toks) (fun b o hb e=>eb b o hb e) f0 f1 f3 f4 f5⟩
 self:=fun _ _ _ _ _ st h=>wpAny_pyIter_tupleiter st h
theorem xx (it:Addr) (lo:Int) (n:Nat):uG P w K tg (IJ lo n) [it] it (fun i h=>IsRangeIter h it (lo+(i:Nat)*1) ((n:Int) - (i:Nat)) 1) where
 mem:=by simp
 obj:=fun i h st b hb=>by
  have e:b=it:=by simpa using hb
  subst e
  exact ⟨_,st,fun v z=>by
   have z':Data.fields _=Data.cell v:=z
   cases z'⟩
 keep:=fun i h h' st k=>k it (by simp) _ st
 item:=by
  intro X hP hw hK hc i pins s σ H E I hf st hg
  subst hP hw hK
  obtain ⟨f0,f1,f2,f3,f4,f5⟩:=hf it (by simp)
  have W:=Walks.range (prog:=X.prog) (w:=X.w) (I.ok.hd hc) it lo 1 n
  refine W.item i s _ _ hg st fun v h' tk hv st' kk=>?_
  obtain ⟨t,rfl⟩:=hv
  have I1:E6 X pins σ H { s with heap:=h',toks:=tk }:=I.turned (fun b o hb e=>kk b o (by simpa using hb) e) f0 f1 f3 f4 f5
  refine ⟨_,rfl,DG (s:={ s with heap:=h',toks:=tk }) (n:="range_iterator") st' rfl rfl (by decide) ⟨.int (lo+i),H,I1,⟨t,?_⟩,⟨rfl,rfl⟩,st',fun b hb=>(hf b hb).1⟩⟩
  rw[Int.mul_one]
 done:=by
  intro X hP hw hK hc i pins s σ H E I hf st hg
  subst hP hw hK
  obtain ⟨f0,f1,f2,f3,f4,f5⟩:=hf it (by simp)
  exact wpAny_pyNext_range_end (I.ok.hd hc) st (by have:n<=i:=hg;lia) fun h' eb=>⟨rfl,I.turned (t':=s.toks) (fun b o hb e=>eb b o hb e) f0 f1 f3 f4 f5⟩
 self:=fun _ _ _ _ _ st h=>wpAny_pyIter_rangeiter st h
section
variable {X:Cx}{tg:Expr}
noncomputable def KQ (K:m9) (tl:TE):TI:=fun σ H R=>tl σ H fun x H1=>∃a,x=.ref a/\(∃xs,eV K H1 a xs)/\R (Gm K a) H1
noncomputable def iTup (K:m9) (tl:TE):TI:=fun σ H R=>tl σ H fun x H1=>∃a,x=.ref a/\(∃xs,dH K H1 a xs)/\R (Jn K a) H1
theorem dc {l:Expr}{tl:TE} (hl:PE X l tl):PI X tg l (KQ X.K tl):=by
 intro pins s σ H R I h
 refine X0 (hl pins s σ H _ I h) fun v s1 ⟨x,H1,I1,r1,q1⟩=>?_
 obtain ⟨a,e,⟨xs,hq⟩,q⟩:=q1
 subst e
 cases r1
 obtain ⟨its,rv,p,hz⟩:=I1.list hq
 refine sF p.isList ?_
 refine ⟨s1.heap.objs.size,[s1.heap.objs.size],_,_,H1,rfl,I1.kept (t':=s1.toks) fun b o e=>f9 _ e,Au a _,⟨_,t7 _ rfl,rfl,rfl⟩,fun b hb=>?_,q⟩
 have e:b=s1.heap.objs.size:=by simpa using hb
 subst e
 exact I1.fpOk (i8 _) (I1.hok.fresh (i8 _))
theorem pP {l:Expr}{tl:TE} (hl:PE X l tl):PI X tg l (iTup X.K tl):=by
 intro pins s σ H R I h
 refine X0 (hl pins s σ H _ I h) fun v s1 ⟨x,H1,I1,r1,q1⟩=>?_
 obtain ⟨a,e,⟨xs,hq⟩,q⟩:=q1
 subst e
 cases r1
 obtain ⟨its,rv,p,hz⟩:=I1.tuple hq
 refine aR (show s1.heap.IsTuple a its.toArray from p) ?_
 refine ⟨s1.heap.objs.size,[s1.heap.objs.size],_,_,H1,rfl,I1.kept (t':=s1.toks) fun b o e=>f9 _ e,xw a _,⟨_,t7 _ rfl,rfl,rfl⟩,fun b hb=>?_,q⟩
 have e:b=s1.heap.objs.size:=by simpa using hb
 subst e
 exact I1.fpOk (i8 _) (I1.hok.fresh (i8 _))
variable {pins:List (Addr × Obj)}{σ:St}{H:Hp}{s:d7}
theorem CJ {R:It->Hp->Prop}{E:b9->d7->Prop}{lo hi:Int}{t u v:Tok}{tk:Nat} (I:E6 X pins σ H s) (h1:-(2 ^ 62)<=lo) (h2:lo<2 ^ 62) (h3:-(2 ^ 62)<=hi) (h4:hi<2 ^ 62)
  (q:R (IJ lo (hi - lo).toNat) H):m6 (t8 X.prog X.w) X.A (nX (.ref s.heap.objs.size)) (LI X pins σ tg R) E { s with heap:=s.heap.push { cls:=.type "range",data:=.fields #[.int lo t,.int hi u,.int 1 v] },toks:=tk }:=by
 refine wpAny_pyIter_range (IsRange.new ..) (small_one h1 h2 h3 h4) ?_
 have I1:E6 X pins σ H { s with heap:=s.heap.push { cls:=.type "range",data:=.fields #[.int lo t,.int hi u,.int 1 v] },toks:=tk }:=I.kept fun b o e=>f9 _ e
 refine ⟨(s.heap.push { cls:=.type "range",data:=.fields #[.int lo t,.int hi u,.int 1 v] }).objs.size,[(s.heap.push { cls:=.type "range",data:=.fields #[.int lo t,.int hi u,.int 1 v] }).objs.size],_,_,H,rfl,
  I1.kept (t':=tk) fun b o e=>f9 _ e,xx _ lo (hi - lo).toNat,?_,fun b hb=>?_,q⟩
 ·have e1:lo+((0:Nat):Int)*1=lo:=by simp
  have e2:(((hi - lo).toNat:Nat):Int) - ((0:Nat):Int)=Builtin.Range.rangeSize lo hi 1:=by rw[rangeSize_one];split <;> lia
  show IsRangeIter _ _ (lo+((0:Nat):Int)*1) ((((hi - lo).toNat:Nat):Int) - ((0:Nat):Int)) 1
  rw[e1,e2]
  exact t7 _ rfl
 ·have e:b=(s.heap.push { cls:=.type "range",data:=.fields #[.int lo t,.int hi u,.int 1 v] }).objs.size:=by simpa using hb
  subst e
  exact I1.fpOk (i8 _) (I1.hok.fresh (i8 _))
noncomputable def KO (ta:TA):TI:=fun σ H R=>ta σ H fun vs H1=>∃j:Int,vs=[.int j]/\-(2 ^ 62)<=j/\j<2 ^ 62/\R (IJ 0 j.toNat) H1
theorem P2 {a:Expr}{ta:TA}{p pos:Pos} (hg:Gl X "range") (hm:X.mg "range"=none) (ha:PA X [a] ta) (hs:C4 [a] X.env=[(false,eval a X.env)]:=by rfl):PI X tg (.Call (.Name "range" p) [a] [] pos) (KO ta):=by
 intro pins s σ H R I h
 refine Call_ (mW I hg hm boot_range (af (X0 (ha pos pins s σ H _ I h) fun us s1 ⟨vs,H1,I1,r1,q1⟩=>?_) hs rfl))
 obtain ⟨j,e,q1,q2,q⟩:=q1
 subst e
 cases r1 with
 | cons r rr =>
  cases rr
  obtain ⟨t,rfl⟩:=r
  exact call_range_1 (CJ I1 (by lia) (by lia) q1 q2 (by simpa using q))
noncomputable def JN (wi:TI) (g:TG) (tb:TS):TS:=fun D σ H=>wi σ H fun J H1=>∃W:Nat->Nat->St->Hp->Prop,(∃m,W 0 m σ H1)/\∀i m σ H,W i m σ H ->
 (J.stop i H/\D.nx σ H) ∨ (J.go i H/\∃N:St->Hp->Prop,(∀σ' H',N σ' H'->∃m',m'<m/\W (i+1) m' σ' H')/\∀x H',J.yld i H x H'->g x σ H' fun σ2 H2=>tb { D with nx:=N,ct:=N,bk:=D.nx } σ2 H2)
noncomputable def tY (fp:List Addr) (h:Heap):List (Addr × Obj):=fp.filterMap fun b=>(h.get? b).map fun o=>(b,o)
variable {fp:List Addr}
theorem cS {h:Heap}{b:Addr}{o:Obj} (hb:b∈fp) (e:h.get? b=some o):(b,o)∈tY fp h:=List.mem_filterMap.mpr ⟨b,hb,by rw[e];rfl⟩
theorem AJ {h:Heap}{p:Addr × Obj} (hp:p∈tY fp h):p.1∈fp/\h.get? p.1=some p.2:=by
 obtain ⟨b,hb,e⟩:=List.mem_filterMap.mp hp
 cases q:h.get? b with
 | none=>rw[q] at e;cases e
 | some o =>
  rw[q] at e
  have e':(b,o)=p:=E7 e
  subst e'
  exact ⟨hb,q⟩
theorem E6.pinned (I:E6 X pins σ H s) (hf:∀b∈fp,oj X pins H b) (ho:∀b∈fp,∃o,s.heap.get? b=some o/\∀v,o.data≠.cell v):E6 X (pins++tY fp s.heap) σ H s :=
 I.pins_of fun p hp=>(List.mem_append.mp hp).elim (fun z=>I.pin p (A9 _ z)) fun z=>by
  obtain ⟨hb,e⟩:=AJ z
  obtain ⟨f0,f1,f2,_⟩:=hf p.1 hb
  obtain ⟨o,e',d⟩:=ho p.1 hb
  rw[e] at e';cases e'
  exact ⟨e,f0,f1,f2,d⟩
theorem E6.unpinned {pl:List (Addr × Obj)}(I:E6 X (pins++pl) σ H s):E6 X pins σ H s:=I.pins_of fun p hp=>I.pin p (A9 _ (O0 _ hp))
theorem cO {iter:Expr}{body:List Stmt}{wi:TI}{g:TG}{tb:TS}{pos:Pos} (hp:PassesOwn (t8 X.prog X.w) X.A X.env X.xe) (hc:X.calm=true) (hi:PI X tg iter wi) (hg:PG X tg g) (hb:qI X body tb)
  (hs:∀x,sL iter X.env x=pure x:=by intro _;rfl):PS X (.For tg iter body [] pos) (JN wi g tb):=by
 intro pins s σ H D I h
 refine wpAny_For (X0 (hi pins s σ H _ I h) fun v s1 h1=>X0 h1 fun itv s2 h2=>?_) hs
 obtain ⟨it,fp,tn,J,H2,e,I2,T,st2,f2,W,⟨m0,w0⟩,turn⟩:=h2
 subst e
 have stat:∀{H':Hp},(∀b∈fp,H' b=none)->∀b∈fp,oj X pins H' b:=fun hn b hb=>⟨hn b hb,(f2 b hb).2⟩
 refine codeAny_forLoop_any (fun n s'=>∃i σ' H',E6 X pins σ' H' s'/\tn i s'.heap/\(∀b∈fp,H' b=none)/\W i n σ' H') ?_ m0 ⟨0,σ,H2,I2,st2,fun b hb=>(f2 b hb).1,w0⟩
 rintro n s3 ⟨i,σ3,H3,I3,st3,fr3,w3⟩
 rcases turn i n σ3 H3 w3 with ⟨stop,qn⟩|⟨go,N,hN,step⟩
 ·refine bh hp (X0 (T.done X rfl rfl rfl hc i pins s3 σ3 H3 X.xe I3 (stat fr3) st3 stop) fun r s4 ⟨hr,I4⟩=>?_)
  subst hr
  exact cW ⟨σ3,H3,I4,qn⟩
 ·refine bh hp (X0 (T.item X rfl rfl rfl hc i pins s3 σ3 H3 X.xe I3 (stat fr3) st3 go) fun r s4 ⟨u,hr,h4⟩=>?_)
  subst hr
  refine bh hp (X0 h4 fun _ s5 ⟨x,H5,I5,r5,y5,st5,fr5⟩=>?_)
  have I5':=I5.pinned (stat fr5) (T.obj _ _ st5)
  refine bh hp (X0 (hg _ s5 σ3 H5 x u _ I5' r5 (step x H5 y5)) fun _ s6 ⟨σ6,H6,I6,q6⟩=>?_)
  refine bh hp (X0 (hb _ s6 σ6 H6 _ I6 q6) fun f s7 q7=>?_)
  have again:∀{σ7:St}{H7:Hp},E6 X (pins++tY fp s5.heap) σ7 H7 s7->N σ7 H7->∃m,m<n/\∃i σ' H',E6 X pins σ' H' s7/\tn i s7.heap/\(∀b∈fp,H' b=none)/\W i m σ' H':=fun {σ7 H7} I7 n7=>by
   obtain ⟨m',hm,w7⟩:=hN σ7 H7 n7
   refine ⟨m',hm,i+1,σ7,H7,I7.unpinned,T.keep _ _ _ st5 fun b hb o e=>(I7.pin (b,o) (A9 _ (A9 _ (cS hb e)))).1,fun b hb=>?_,w7⟩
   obtain ⟨o,e,d⟩:=T.obj _ _ st5 b hb
   exact (I7.pin (b,o) (A9 _ (A9 _ (cS hb e)))).2.1
  cases f with
  | next=>obtain ⟨σ7,H7,I7,n7⟩:=q7;exact again I7 n7
  | cont=>obtain ⟨σ7,H7,I7,n7⟩:=q7;exact again I7 n7
  | brk=>obtain ⟨σ7,H7,I7,q7⟩:=q7;exact ⟨σ7,H7,I7.unpinned,q7⟩
  | ret v=>obtain ⟨x7,σ7,H7,I7,r7,q7⟩:=q7;exact ⟨x7,σ7,H7,I7.unpinned,r7,q7⟩
end
variable {g:TG}{tb:TS}{D:ju}
theorem lO {xs:List V}(Pv:Nat->St->Hp->Prop) (h0:Pv 0 σ H) (hl:∀i σ H,i<=xs.length->Pv i σ H->eV K H a xs)
  (hs:∀i x σ H,xs[i]?=some x->Pv i σ H->g x σ H fun σ2 H2=>tb { D with nx:=Pv (i+1),ct:=Pv (i+1),bk:=D.nx } σ2 H2) (hd:∀σ H,Pv xs.length σ H->D.nx σ H):
  ∃W:Nat->Nat->St->Hp->Prop,(∃m,W 0 m σ H)/\∀i m σ H,W i m σ H ->
   ((Gm K a).stop i H/\D.nx σ H) ∨ ((Gm K a).go i H/\∃N:St->Hp->Prop,(∀σ' H',N σ' H'->∃m',m'<m/\W (i+1) m' σ' H')/\∀x H',(Gm K a).yld i H x H'->g x σ H' fun σ2 H2=>tb { D with nx:=N,ct:=N,bk:=D.nx } σ2 H2):=by
 refine ⟨fun i m σ H=>m=xs.length - i/\i<=xs.length/\Pv i σ H,⟨xs.length,by simp,u9 _,h0⟩,?_⟩
 rintro i m σ H ⟨rfl,hi,p⟩
 have q:=hl i σ H hi p
 by_cases hlt:i<xs.length
 ·refine .inr ⟨⟨xs,xs[i],q,by simp[hlt]⟩,Pv (i+1),fun σ' H' p'=>⟨xs.length - (i+1),by lia,rfl,hlt,p'⟩,fun x H' y=>?_⟩
  obtain ⟨e,y⟩:=y
  subst e
  exact hs i x σ _ (y xs q) p
 ·have e:i=xs.length:=by lia
  subst e
  exact .inl ⟨⟨xs,q,i8 _⟩,hd σ H p⟩
theorem Fv {xs:List V}(Pv:Nat->St->Hp->Prop) (h0:Pv 0 σ H) (hl:∀i σ H,i<=xs.length->Pv i σ H->dH K H a xs)
  (hs:∀i x σ H,xs[i]?=some x->Pv i σ H->g x σ H fun σ2 H2=>tb { D with nx:=Pv (i+1),ct:=Pv (i+1),bk:=D.nx } σ2 H2) (hd:∀σ H,Pv xs.length σ H->D.nx σ H):
  ∃W:Nat->Nat->St->Hp->Prop,(∃m,W 0 m σ H)/\∀i m σ H,W i m σ H ->
   ((Jn K a).stop i H/\D.nx σ H) ∨ ((Jn K a).go i H/\∃N:St->Hp->Prop,(∀σ' H',N σ' H'->∃m',m'<m/\W (i+1) m' σ' H')/\∀x H',(Jn K a).yld i H x H'->g x σ H' fun σ2 H2=>tb { D with nx:=N,ct:=N,bk:=D.nx } σ2 H2):=by
 refine ⟨fun i m σ H=>m=xs.length - i/\i<=xs.length/\Pv i σ H,⟨xs.length,by simp,u9 _,h0⟩,?_⟩
 rintro i m σ H ⟨rfl,hi,p⟩
 have q:=hl i σ H hi p
 by_cases hlt:i<xs.length
 ·refine .inr ⟨⟨xs,xs[i],q,by simp[hlt]⟩,Pv (i+1),fun σ' H' p'=>⟨xs.length - (i+1),by lia,rfl,hlt,p'⟩,fun x H' y=>?_⟩
  obtain ⟨e,y⟩:=y
  subst e
  exact hs i x σ _ (y xs q) p
 ·have e:i=xs.length:=by lia
  subst e
  exact .inl ⟨⟨xs,q,i8 _⟩,hd σ H p⟩
theorem eQ {lo:Int}{n:Nat}(Pv:Nat->St->Hp->Prop) (h0:Pv 0 σ H)
  (hs:∀i σ H,i<n->Pv i σ H->g (.int (lo+i)) σ H fun σ2 H2=>tb { D with nx:=Pv (i+1),ct:=Pv (i+1),bk:=D.nx } σ2 H2) (hd:∀σ H,Pv n σ H->D.nx σ H):
  ∃W:Nat->Nat->St->Hp->Prop,(∃m,W 0 m σ H)/\∀i m σ H,W i m σ H ->
   ((IJ lo n).stop i H/\D.nx σ H) ∨ ((IJ lo n).go i H/\∃N:St->Hp->Prop,(∀σ' H',N σ' H'->∃m',m'<m/\W (i+1) m' σ' H')/\∀x H',(IJ lo n).yld i H x H'->g x σ H' fun σ2 H2=>tb { D with nx:=N,ct:=N,bk:=D.nx } σ2 H2):=by
 refine ⟨fun i m σ H=>m=n - i/\i<=n/\Pv i σ H,⟨n,by simp,u9 _,h0⟩,?_⟩
 rintro i m σ H ⟨rfl,hi,p⟩
 by_cases hlt:i<n
 ·refine .inr ⟨hlt,Pv (i+1),fun σ' H' p'=>⟨n - (i+1),by lia,rfl,hlt,p'⟩,fun x H' y=>?_⟩
  obtain ⟨e,y⟩:=y
  subst e y
  exact hs i σ _ hlt p
 ·have e:i=n:=by lia
  subst e
  exact .inl ⟨i8 _,hd σ H p⟩
noncomputable abbrev R2:=V->V->Hp->VK->Prop
noncomputable def jC (X:Cx) (f:b9->b9->Sem b9) (r:R2):Prop :=
 ∀(pins:List (Addr × Obj)) (s:d7) (σ:St) (H:Hp) (x y:V) (v u:b9) (Q:VK),E6 X pins σ H s->Q4 x v->Q4 y u->r x y H Q ->
  m6 (t8 X.prog X.w) X.A (f v u) (EP X pins σ Q) X.xe s
noncomputable def UnR (X:Cx) (f:b9->Sem b9) (r:V->Hp->VK->Prop):Prop :=
 ∀(pins:List (Addr × Obj)) (s:d7) (σ:St) (H:Hp) (x:V) (v:b9) (Q:VK),E6 X pins σ H s->Q4 x v->r x H Q ->
  m6 (t8 X.prog X.w) X.A (f v) (EP X pins σ Q) X.xe s
noncomputable def cx (X:Cx) (f:b9) (r:List V->Hp->VK->Prop):Prop :=
 ∀(pins:List (Addr × Obj)) (s:d7) (σ:St) (H:Hp) (xs:List V) (us:List b9) (Q:VK),E6 X pins σ H s->M9 xs us->r xs H Q ->
  m6 (t8 X.prog X.w) X.A (call f us) (EP X pins σ Q) X.xe s
noncomputable def iP (r:R2) (ta tb:TE):TE:=fun σ H Q=>ta σ H fun x H1=>tb σ H1 fun y H2=>r x y H2 Q
noncomputable def tUn (r:V->Hp->VK->Prop) (ta:TE):TE:=fun σ H Q=>ta σ H fun x H1=>r x H1 Q
noncomputable def rI (C:Int->Int->Prop) (g:Int->Int->V):R2:=fun x y H Q=>∃i j,x=.int i/\y=.int j/\C i j/\Q (g i j) H
noncomputable def vL (g:Int->Int->V):R2:=fun x y H Q=>∃i j,x=.int i/\y=.int j/\Q (g i j) H
noncomputable def rU (g:Int->V):V->Hp->VK->Prop:=fun x H Q=>∃i,x=.int i/\Q (g i) H
section
variable {X:Cx}{a b c:Expr}{ta tb tc:TE}{pos:Pos}
variable {f:b9->b9->Sem b9}
theorem Iu (ha:PE X a ta) (hb:PE X b tb) {pins:List (Addr × Obj)}{s:d7}{σ:St}{H:Hp}{R:V->V->Hp->Prop} (I:E6 X pins σ H s)
  (h:ta σ H fun x H1=>tb σ H1 fun y H2=>R x y H2) {Q:b9->d7->Prop}
  (hf:∀v u s2 x y H2,E6 X pins σ H2 s2->Q4 x v->Q4 y u->R x y H2->m6 (t8 X.prog X.w) X.A (f v u) Q X.xe s2):
  m6 (t8 X.prog X.w) X.A (eval a X.env) (fun v s₁=>m6 (t8 X.prog X.w) X.A (eval b X.env) (fun u s₂=>m6 (t8 X.prog X.w) X.A (f v u) Q X.xe s₂) X.xe s₁) X.xe s:=by
 refine X0 (ha pins s σ H _ I h) fun v s1 ⟨x,H1,I1,r1,q1⟩=>?_
 refine X0 (hb pins s1 σ H1 _ I1 q1) fun u s2 ⟨y,H2,I2,r2,q2⟩=>?_
 exact hf v u s2 x y H2 I2 r1 r2 q2
theorem D5 {op:Operator}{r:R2} (ho:jC X (W8 op) r) (ha:PE X a ta) (hb:PE X b tb):PE X (.BinOp a op b pos) (iP r ta tb):=by
 intro pins s σ H Q I h
 exact wpAny_BinOp (Iu ha hb I h fun v u s2 x y H2 I2 rx ry q=>ho pins s2 σ H2 x y v u Q I2 rx ry q)
theorem CS {op:UnaryOp}{r:V->Hp->VK->Prop} (ho:UnR X (unaryOp op) r) (ha:PE X a ta):PE X (.UnaryOp op a pos) (tUn r ta):=by
 intro pins s σ H Q I h
 exact UnaryOp_ (X0 (ha pins s σ H _ I h) fun v s1 ⟨x,H1,I1,r1,q1⟩=>ho pins s1 σ H1 x v Q I1 r1 q1)
theorem Jf {C:Int->Int->Prop}{g:Int->Int->Int}
  (rule:∀(i j:Int) (t u:Tok) (s:d7) (Q:b9->d7->Prop) (E:b9->d7->Prop),C i j->Q (.int (g i j) s.toks) { s with toks:=s.toks+1 }->m6 (t8 X.prog X.w) X.A (f (.int i t) (.int j u)) Q E s):
  jC X f (rI C fun i j=>.int (g i j)):=by
 intro pins s σ H x y v u Q I rx ry h
 obtain ⟨i,j,rfl,rfl,hc,q⟩:=h
 obtain ⟨t,rfl⟩:=rx
 obtain ⟨t',rfl⟩:=ry
 exact rule i j t t' s _ _ hc ⟨.int (g i j),H,I.tok _,⟨_,rfl⟩,q⟩
theorem Kt {g:Int->Int->Int}
  (rule:∀(i j:Int) (t u:Tok) (s:d7) (Q:b9->d7->Prop) (E:b9->d7->Prop),Q (.int (g i j) s.toks) { s with toks:=s.toks+1 }->m6 (t8 X.prog X.w) X.A (f (.int i t) (.int j u)) Q E s):
  jC X f (vL fun i j=>.int (g i j)):=by
 intro pins s σ H x y v u Q I rx ry h
 obtain ⟨i,j,rfl,rfl,q⟩:=h
 obtain ⟨t,rfl⟩:=rx
 obtain ⟨t',rfl⟩:=ry
 exact rule i j t t' s _ _ ⟨.int (g i j),H,I.tok _,⟨_,rfl⟩,q⟩
theorem Fg {g:Int->Int->Bool}
  (rule:∀(i j:Int) (t u:Tok) (s:d7) (Q:b9->d7->Prop) (E:b9->d7->Prop),Q (.bool (g i j)) s->m6 (t8 X.prog X.w) X.A (f (.int i t) (.int j u)) Q E s):
  jC X f (vL fun i j=>.bl (g i j)):=by
 intro pins s σ H x y v u Q I rx ry h
 obtain ⟨i,j,rfl,rfl,q⟩:=h
 obtain ⟨t,rfl⟩:=rx
 obtain ⟨t',rfl⟩:=ry
 exact rule i j t t' s _ _ ⟨.bl (g i j),H,I,rfl,q⟩
noncomputable def CDiv (i j:Int):Prop:=0<j/\j<1073741824
noncomputable def Lm (i j:Int):Prop:=0<=j/\j<=1000000/\i.natAbs<2 ^ 64
noncomputable def IP (i j:Int):Prop:=(-(2 ^ 64)<i/\i<2 ^ 64) ∨ (-(2 ^ 64)<j/\j<2 ^ 64)
theorem IP.ok {i j:Int} (h:IP i j):IntMulOk i j:=by
 rcases h with ⟨h1,h2⟩|⟨h1,h2⟩
 ·exact .of_left (intBits_le_64 h1 h2)
 ·exact .of_right (intBits_le_64 h1 h2)
theorem Z5:jC X (W8 .Add) (vL fun i j=>.int (i+j)):=Kt fun _ _ _ _ _ _ _ q=>add_int q
theorem HR:jC X (W8 .Sub) (vL fun i j=>.int (i - j)):=Kt fun _ _ _ _ _ _ _ q=>sub_int q
theorem kE:jC X (W8 .Mult) (rI IP fun i j=>.int (i*j)):=Jf fun _ _ _ _ _ _ _ hc q=>mul_int q hc.ok
theorem zy:jC X (W8 .FloorDiv) (rI CDiv fun i j=>.int (i / j)):=Jf fun i j _ _ _ _ _ hc q=>by
 have h1:(0:Int)<j:=hc.1
 have h2:j<1073741824:=hc.2
 exact floordiv_int (by lia) (by rw[vc i (by lia)];exact q) (.inl (PyProof.noPylong_small (by lia)))
theorem dS:jC X (W8 .Mod) (rI (fun _ j=>0<j) fun i j=>.int (i % j)):=Jf fun i j _ _ _ _ _ hc q=>by
 have h1:(0:Int)<j:=hc
 exact mod_int' (by lia) (by rw[Int.fmod_eq_emod_of_nonneg i (by lia)];exact q)
theorem kD:jC X (W8 .Pow) (rI Lm fun i j=>.int (i ^ j.toNat)):=Jf fun _ _ _ _ _ _ _ hc q=>pow_int_small hc.1 hc.2.1 hc.2.2 q
theorem unI {f:b9->Sem b9}{g:Int->Int}
  (rule:∀(i:Int) (t:Tok) (s:d7) (Q:b9->d7->Prop) (E:b9->d7->Prop),Q (.int (g i) s.toks) { s with toks:=s.toks+1 }->m6 (t8 X.prog X.w) X.A (f (.int i t)) Q E s):
  UnR X f (rU fun i=>.int (g i)):=by
 intro pins s σ H x v Q I rx h
 obtain ⟨i,rfl,q⟩:=h
 obtain ⟨t,rfl⟩:=rx
 exact rule i t s _ _ ⟨.int (g i),H,I.tok _,⟨_,rfl⟩,q⟩
theorem xv:UnR X (unaryOp .USub) (rU fun i=>.int (-i)):=unI fun _ _ _ _ _ q=>neg_int q
end
noncomputable def GU:V->V->Bool
 | .non,.non=>true | .non,.int _=>true | .int _,.non=>true | .non,.bl _=>true | .bl _,.non=>true | .non,.str _=>true | .str _,.non=>true
 | .int _,.int _=>true | .bl _,.bl _=>true | .str _,.str _=>true | .byt _,.byt _=>true
 | .int _,.str _=>true | .str _,.int _=>true | .bl _,.str _=>true | .str _,.bl _=>true
 | _,_=>false
noncomputable def rEq:R2:=fun x y H Q=>GU x y=true/\Q (.bl (decide (x=y))) H
noncomputable def rNe:R2:=fun x y H Q=>GU x y=true/\Q (.bl (!decide (x=y))) H
theorem zN {i j:Int}:decide (V.int i=V.int j)=(i == j):=by
 rw[aI]
 simp
theorem DP {i j:Bool}:decide (V.bl i=V.bl j)=(i == j):=by
 rw[aI]
 simp
theorem zM {i j:Str}:decide (V.str i=V.str j)=(i == j):=by
 rw[aI]
 simp
theorem zO {i j:Array UInt8}:decide (V.byt i=V.byt j)=(i.toList == j.toList):=by
 rw[aI]
 cases i
 cases j
 simp
section
variable {X:Cx}{a b c:Expr}{ta tb tc:TE}{pos:Pos}
theorem O9 {pins:List (Addr × Obj)}{σ:St}{H:Hp}{s:d7}{Q:VK}{k k':Bool} (I:E6 X pins σ H s) (q:Q (.bl k) H) (e:k=k'):EP X pins σ Q (.bool k') s:=by
 subst e
 exact ⟨.bl k,H,I,rfl,q⟩
theorem jj:jC X (T8 .Eq) rEq:=by
 intro pins s σ H x y v u Q I rx ry h
 obtain ⟨hs,q⟩:=h
 cases x with
 | non =>
  cases rx
  cases y with
  | non=>cases ry;exact PySem.EqNone.eq_none_none (O9 I q (by simp))
  | bl j=>cases ry;exact PySem.EqNone.eq_none_bool (O9 I q (by simp))
  | int j=>obtain ⟨t',rfl⟩:=ry;exact PySem.EqNone.eq_none_int (O9 I q (by simp))
  | str j=>obtain ⟨t',rfl⟩:=ry;exact PySem.EqNone.eq_none_str (O9 I q (by simp))
  | _=>exact absurd (show false=true from hs) A0
 | bl i =>
  cases rx
  cases y with
  | non=>cases ry;exact PySem.EqNone.eq_bool_none (O9 I q (by simp))
  | bl j=>cases ry;exact eq_bool (O9 I q DP)
  | str j=>obtain ⟨t',rfl⟩:=ry;exact PySem.EqMixed.eq_bool_str (O9 I q (by simp))
  | _=>exact absurd (show false=true from hs) A0
 | int i =>
  obtain ⟨t,rfl⟩:=rx
  cases y with
  | non=>cases ry;exact PySem.EqNone.eq_int_none (O9 I q (by simp))
  | int j=>obtain ⟨t',rfl⟩:=ry;exact eq_int (O9 I q zN)
  | str j=>obtain ⟨t',rfl⟩:=ry;exact PySem.EqMixed.eq_int_str (O9 I q (by simp))
  | _=>exact absurd (show false=true from hs) A0
 | str i =>
  obtain ⟨t,rfl⟩:=rx
  cases y with
  | non=>cases ry;exact PySem.EqNone.eq_str_none (O9 I q (by simp))
  | bl j=>cases ry;exact PySem.EqMixed.eq_str_bool (O9 I q (by simp))
  | int j=>obtain ⟨t',rfl⟩:=ry;exact PySem.EqMixed.eq_str_int (O9 I q (by simp))
  | str j=>obtain ⟨t',rfl⟩:=ry;exact eq_str (O9 I q zM)
  | _=>exact absurd (show false=true from hs) A0
 | byt i =>
  obtain ⟨t,rfl⟩:=rx
  cases y with
  | byt j=>obtain ⟨t',rfl⟩:=ry;exact W.eq_bytes (O9 I q zO)
  | _=>exact absurd (show false=true from hs) A0
 | _=>cases y <;> exact absurd (show false=true from hs) A0
theorem jU:jC X (T8 .NotEq) rNe:=by
 intro pins s σ H x y v u Q I rx ry h
 obtain ⟨hs,q⟩:=h
 cases x with
 | non =>
  cases rx
  cases y with
  | non=>cases ry;exact PySem.EqNone.ne_none_none (O9 I q (by simp))
  | bl j=>cases ry;exact PySem.EqNone.ne_none_bool (O9 I q (by simp))
  | int j=>obtain ⟨t',rfl⟩:=ry;exact PySem.EqNone.ne_none_int (O9 I q (by simp))
  | str j=>obtain ⟨t',rfl⟩:=ry;exact PySem.EqNone.ne_none_str (O9 I q (by simp))
  | _=>exact absurd (show false=true from hs) A0
 | bl i =>
  cases rx
  cases y with
  | non=>cases ry;exact PySem.EqNone.ne_bool_none (O9 I q (by simp))
  | bl j=>cases ry;exact ne_bool (O9 I q (congrArg not DP))
  | str j=>obtain ⟨t',rfl⟩:=ry;exact PySem.EqMixed.ne_bool_str (O9 I q (by simp))
  | _=>exact absurd (show false=true from hs) A0
 | int i =>
  obtain ⟨t,rfl⟩:=rx
  cases y with
  | non=>cases ry;exact PySem.EqNone.ne_int_none (O9 I q (by simp))
  | int j=>obtain ⟨t',rfl⟩:=ry;exact ne_int (O9 I q (congrArg not zN))
  | str j=>obtain ⟨t',rfl⟩:=ry;exact PySem.EqMixed.ne_int_str (O9 I q (by simp))
  | _=>exact absurd (show false=true from hs) A0
 | str i =>
  obtain ⟨t,rfl⟩:=rx
  cases y with
  | non=>cases ry;exact PySem.EqNone.ne_str_none (O9 I q (by simp))
  | bl j=>cases ry;exact PySem.EqMixed.ne_str_bool (O9 I q (by simp))
  | int j=>obtain ⟨t',rfl⟩:=ry;exact PySem.EqMixed.ne_str_int (O9 I q (by simp))
  | str j=>obtain ⟨t',rfl⟩:=ry;exact ne_str (O9 I q (congrArg not zM))
  | _=>exact absurd (show false=true from hs) A0
 | byt i =>
  obtain ⟨t,rfl⟩:=rx
  cases y with
  | byt j=>obtain ⟨t',rfl⟩:=ry;exact W.ne_bytes (O9 I q (congrArg not zO))
  | _=>exact absurd (show false=true from hs) A0
 | _=>cases y <;> exact absurd (show false=true from hs) A0
theorem Ge:jC X (T8 .Lt) (vL fun i j=>.bl (decide (i<j))):=Fg fun _ _ _ _ _ _ _ q=>lt_int q
theorem iH:jC X (T8 .LtE) (vL fun i j=>.bl (decide (i<=j))):=Fg fun _ _ _ _ _ _ _ q=>le_int q
theorem rO:jC X (T8 .Gt) (vL fun i j=>.bl (decide (j<i))):=Fg fun _ _ _ _ _ _ _ q=>gt_int q
theorem Ks:jC X (T8 .GtE) (vL fun i j=>.bl (decide (j<=i))):=Fg fun _ _ _ _ _ _ _ q=>ge_int q
variable {op:El}
theorem O8 (b:Expr) (h:op≠.In:=by decide) (h2:op≠.NotIn:=by decide):cL op b=false:=by
 have e1:(op == CmpOp.In)=false:=by cases op <;> first|rfl|exact absurd rfl h
 have e2:(op == LC)=false:=by cases op <;> first|rfl|exact absurd rfl h2
 cases b <;> simp[cL,e1,e2]
variable {r:R2}
theorem df (ho:jC X (T8 op) r) (ha:PE X a ta) (hb:PE X b tb) (hm:cL op b=false):PE X (.Compare a [op] [b] pos) (iP r ta tb):=by
 intro pins s σ H Q I h
 exact wpAny_Compare1 (Iu ha hb I h fun v u s2 x y H2 I2 rx ry q=>ho pins s2 σ H2 x y v u Q I2 rx ry q) hm
noncomputable def FY (t:TE):TT:=fun σ H Q=>t σ H fun x H'=>∃k,x=.bl k/\Q k H'
theorem R7 {op:El}{r:R2} (ho:jC X (T8 op) r) (ha:PE X a ta) (hb:PE X b tb) (hm:cL op b=false):PT X (.Compare a [op] [b] pos) (FY (iP r ta tb)):=by
 intro pins s σ H Q I h
 refine FK (X0 (ha pins s σ H _ I h) fun v s1 ⟨x,H1,I1,r1,q1⟩=>X0 (hb pins s1 σ H1 _ I1 q1) fun u s2 ⟨y,H2,I2,r2,q2⟩ =>
  X0 (ho pins s2 σ H2 x y v u _ I2 r1 r2 q2) fun c s3 ⟨z,H3,I3,r3,k,e,q3⟩=>?_) hm
 subst e
 cases r3
 exact N7 ⟨H3,I3,q3⟩
noncomputable def xA (r r':R2) (ta tb tc:TE):TE:=fun σ H Q=>ta σ H fun x H1=>tb σ H1 fun y H2=>r x y H2 fun z H3=>∃k,z=.bl k /\
 (if k=true then tc σ H3 fun w' H4=>r' y w' H4 Q else Q (.bl false) H3)
theorem ji {op':El}{r':R2} (ho:jC X (T8 op) r) (ho':jC X (T8 op') r') (ha:PE X a ta) (hb:PE X b tb) (hc:PE X c tc)
  (hm:lastMarks [op,op'] [b,c]=false:=by with_unfolding_all rfl):PE X (.Compare a [op,op'] [b,c] pos) (xA r r' ta tb tc):=by
 intro pins s σ H Q I h
 refine Compare_chain (X0 (ha pins s σ H _ I h) fun v s1 ⟨x,H1,I1,r1,q1⟩=>chain_link (X0 (hb pins s1 σ H1 _ I1 q1) fun u s2 ⟨y,H2,I2,r2,q2⟩ =>
  X0 (ho pins s2 σ H2 x y v u _ I2 r1 r2 q2) fun d s3 ⟨z,H3,I3,r3,k,e,q3⟩=>?_)) hm
 subst e
 cases r3
 refine N7 ?_
 cases k with
 | false=>exact ite_ff ⟨.bl false,H3,I3,rfl,q3⟩
 | true=>exact ite_tt (chain_last (X0 (hc pins s3 σ H3 _ I3 q3) fun w' s4 ⟨z',H4,I4,r4,q4⟩=>ho' pins s4 σ H4 y z' u w' Q I4 r2 r4 q4))
theorem CM {op':El}{r':R2} (ho:jC X (T8 op) r) (ho':jC X (T8 op') r') (ha:PE X a ta) (hb:PE X b tb) (hc:PE X c tc)
  (hm:lastMarks [op,op'] [b,c]=false:=by with_unfolding_all rfl):PT X (.Compare a [op,op'] [b,c] pos) (FY (xA r r' ta tb tc)):=by
 intro pins s σ H Q I h
 refine isTrue_chain (X0 (ha pins s σ H _ I h) fun v s1 ⟨x,H1,I1,r1,q1⟩=>test_link (X0 (hb pins s1 σ H1 _ I1 q1) fun u s2 ⟨y,H2,I2,r2,q2⟩ =>
  X0 (ho pins s2 σ H2 x y v u _ I2 r1 r2 q2) fun d s3 ⟨z,H3,I3,r3,k,e,q3⟩=>?_)) hm
 subst e
 cases r3
 refine N7 ?_
 cases k with
 | false =>
  obtain ⟨k',e',q'⟩:=q3
  cases e'
  exact ite_ff ⟨H3,I3,q'⟩
 | true =>
  refine ite_tt (test_last (X0 (hc pins s3 σ H3 _ I3 q3) fun w' s4 ⟨z',H4,I4,r4,q4⟩=>X0 (ho' pins s4 σ H4 y z' u w' _ I4 r2 r4 q4) fun d' s5 ⟨z2,H5,I5,r5,k2,e2,q5⟩=>?_))
  subst e2
  cases r5
  exact N7 ⟨H5,I5,q5⟩
theorem ui:(i6:Nat)<2 ^ 63:=by rw[aP];decide
theorem lg {x:V}{us:List b9} (r:M9 [x] us):∃u,us=[u]/\Q4 x u:=by
 cases r with
 | cons r1 r2=>cases r2;exact ⟨_,rfl,r1⟩
theorem FV {x y:V}{us:List b9} (r:M9 [x,y] us):∃u w',us=[u,w']/\Q4 x u/\Q4 y w':=by
 cases r with
 | cons r1 r2 =>
  cases r2 with
  | cons r3 r4=>cases r4;exact ⟨_,_,rfl,r1,r3⟩
theorem wF:cx X (.builtin "abs") (fun xs H Q=>∃i,xs=[.int i]/\Q (.int (if i<0 then -i else i)) H):=by
 intro pins s σ H xs us Q I r h
 obtain ⟨i,rfl,q⟩:=h
 obtain ⟨u,rfl,t,rfl⟩:=lg r
 exact call_abs_int fun u tk=>⟨.int (if i<0 then -i else i),H,I.tok _,⟨_,rfl⟩,q⟩
theorem Bh (hc:X.calm=true):cx X (.builtin "max") (fun xs H Q=>∃i j,xs=[.int i,.int j]/\Q (.int (if j > i then j else i)) H):=by
 intro pins s σ H xs us Q I r h
 obtain ⟨i,j,rfl,q⟩:=h
 obtain ⟨u,w',rfl,⟨t,rfl⟩,⟨t',rfl⟩⟩:=FV r
 refine max_two_ints (I.ok.hd hc) fun h' tk k=>⟨_,H,I.kept k,?_,q⟩
 by_cases hj:j > i
 ·rw[if_pos hj,if_pos hj];exact ⟨_,rfl⟩
 ·rw[if_neg hj,if_neg hj];exact ⟨_,rfl⟩
theorem Bg (hc:X.calm=true):cx X (.builtin "min") (fun xs H Q=>∃i j,xs=[.int i,.int j]/\Q (.int (if j<i then j else i)) H):=by
 intro pins s σ H xs us Q I r h
 obtain ⟨i,j,rfl,q⟩:=h
 obtain ⟨u,w',rfl,⟨t,rfl⟩,⟨t',rfl⟩⟩:=FV r
 refine min_two_ints (I.ok.hd hc) fun h' tk k=>⟨_,H,I.kept k,?_,q⟩
 by_cases hj:j<i
 ·rw[if_pos hj,if_pos hj];exact ⟨_,rfl⟩
 ·rw[if_neg hj,if_neg hj];exact ⟨_,rfl⟩
theorem eU:cx X (.type "int") (fun xs H Q=>(∃i,xs=[.int i]/\Q (.int i) H) ∨ ∃k,xs=[.bl k]/\Q (.int (if k then 1 else 0)) H):=by
 intro pins s σ H xs us Q I r h
 rcases h with ⟨i,rfl,q⟩|⟨k,rfl,q⟩
 ·obtain ⟨u,rfl,t,rfl⟩:=lg r
  exact call_int_int ⟨.int i,H,I,⟨_,rfl⟩,q⟩
 ·obtain ⟨u,rfl,r1⟩:=lg r
  cases r1
  exact call_int_bool ⟨.int (if k then 1 else 0),H,I.tok _,⟨_,rfl⟩,q⟩
end
structure IG (h:Heap) (x dx C:Addr) (mA:Str->Option b9):Prop where
 obj:h.get? x=some (Ju C dx)
 ns:h.Ns1 dx mA
 ne:dx≠x
theorem AM {dx:Addr}{mA:Str->Option b9} (n:h.Ns1 dx mA):∃od,h.get? dx=some od/\∀name,LU name od=some (mA name):=by
 obtain ⟨o,es,ep,ho,hd,hk,_,hm⟩:=n
 refine ⟨o,ho,fun name=>?_⟩
 have e:=hm name
 unfold nsFind findBy at e
 rw[<- Array.find?_toList] at e
 unfold LU
 rw[hd]
 dsimp only
 split
 ·rename_i y q
  rw[q] at e
  exact congrArg some e
 ·rename_i q
  rw[q] at e
  have a:es.toList.any (·.refKey)=false:=by
   rw[List.any_eq_false]
   intro y hy
   obtain ⟨z,t,hkey⟩:=hk y (Array.mem_toList_iff.mp hy)
   simp[DictEntry.refKey,hkey]
  have a':¬ es.toList.any (·.refKey)=true:=by rw[a];exact A0
  rw[if_neg a']
  exact congrArg some e
theorem IG.look {x dx C:Addr}{mA:Str->Option b9} (I:IG h x dx C mA):∃od,LV h x (Ju C dx) C (some od)/\∀name,LU name od=some (mA name):=
 let ⟨od,ho,hl⟩:=AM I.ns
 ⟨od,⟨I.obj,rfl,rfl,ho⟩,hl⟩
section
variable {prog:j6}{w:r9}{A:A5}{E:b9->d7->Prop}{s:d7}{K:m9}{x dx C f:Addr}{mA:Str->Option b9}{name:Str}{v:b9}
end
section
variable {P:j6}{w:r9}{H H':Hp}{h h':Heap}{a C dx:Addr}{fs fs':List (Str × V)}
theorem Fs (hok:cV P w H h) (e:H a=some (.ins C dx fs)):∃mA,IG h a dx C mA/\(∀f,IE (fs.lookup f) (mA f))/\Jz mA (fs.map (·.1))/\fs.length<=1000/\H dx=some (.own a):=by
 obtain ⟨d,z,ne,ob,mA,n,r,q⟩:=(show P5 P w H h a (.ins C dx fs) from hok a _ e)
 exact ⟨mA,⟨ob,n,ne⟩,r,q,z,d⟩
end
structure Cls (K:m9) (C:Addr):Prop where
 pg:W.plainGet K C Str.empty=true
 hd:W.hasDictIn K C=true
 po:W.plainOver K C=true
 sa:X8 K (.ref C) "__setattr__"=some (some (.builtin "object.__setattr__"))
theorem Cls.get {C:Addr} (c:Cls K C) (f:Str):W.plainGet K C f=true:=c.pg
structure Con (K:m9) (C:Addr) (f:Str) (v:V) (u:b9):Prop where
 at_:X8 K (.ref C) f=some (some u)
 rel:Q4 v u
 get:mj K u "__get__"=some none
 cp:W.copiedNames.contains f=false
structure Meth (K:m9) (C:Addr) (m:Str) (f:Addr):Prop where
 at_:X8 K (.ref C) m=some (some (.ref f))
 fn:W.isFn K (.ref f)=true
 kp:cD K (.ref f)=true
section
variable {X:Cx}{pins:List (Addr × Obj)}{σ:St}{H:Hp}{s:d7}{a C dx:Addr}{fs:List (Str × V)}{f:Str}{v:V}{A:A5}{E:b9->d7->Prop}
end
section
variable {X:Cx}{o e value:Expr}{f:Str}{pos pos' tpos:Pos}{ta tv:TE}
end
section
variable {X:Cx}{pins:List (Addr × Obj)}{σ:St}{H:Hp}{s:d7}{A:A5}{E:b9->d7->Prop}{Q:b9->d7->Prop}{c:b9}{b:Bool}
inductive nj (K:m9) (H:Hp):V->b9->Prop where
 | non:nj K H .non (.type "NoneType")
 | bl (x:Bool):nj K H (.bl x) (.type "bool")
 | int (i:Int):nj K H (.int i) (.type "int")
 | str (x:Str):nj K H (.str x) (.type "str")
 | flt (x:UInt64):nj K H (.flt x) (.type "float")
 | lst {a:Addr}{xs:List V} (e:H a=some (.lst xs)):nj K H (.ref a) (.type "list")
 | frz {a:Addr}{o:Obj}{xs:List V} (e:H a=some (.frz o (.lst xs))):nj K H (.ref a) (.type "list")
 | tup {a:Addr}{xs:List V} (e:H a=some (.tup xs)):nj K H (.ref a) (.type "tuple")
 | dK {a:Addr}{kvs:List (jt × V)} (e:H a=some (.dK kvs)):nj K H (.ref a) (.type "dict")
 | dT {a:Addr}{kvs:List (List jt × V)} (e:H a=some (.dT kvs)):nj K H (.ref a) (.type "dict")
 | ins {a C dx:Addr}{fs:List (Str × V)} (e:H a=some (.ins C dx fs)) (cl:Cls K C) (ha:X8 K (.ref C) "__class__"=some (some (.builtin "object.__class__")))
   (hn:mj K (.builtin "object.__class__") "__get__"=some (some (.builtin "getset_descriptor.__get__"))) (htk:Bo K (.builtin "object.__class__")=some true)
   (hm:IT K C (.type "object")=some true):nj K H (.ref a) (.ref C)
theorem AX {x:V}{u t:b9} (I:E6 X pins σ H s) (rx:Q4 x u) (ty:nj X.K H x t) (e:cC X.K t c=some b) (h:∀tk,Q (.bool b) { s with toks:=tk }):
  m6 (t8 X.prog X.w) A (call (.builtin "isinstance") [u,c]) Q E s:=by
 cases ty with
 | non=>cases (show u=E9 from rx);exact bg W.kitx_none I.kIn au e (fun z=>nomatch z) h
 | bl y=>cases (show u=Y5 y from rx);exact bg W.kitx_bool I.kIn au e (fun z=>nomatch z) h
 | int i=>obtain ⟨t,q⟩:=(show ∃t,u=oO i t from rx);cases q;exact bg W.kitx_int I.kIn au e (fun z=>nomatch z) h
 | str y=>obtain ⟨t,q⟩:=(show ∃t,u=wV y t from rx);cases q;exact bg W.kitx_str I.kIn au e (fun z=>nomatch z) h
 | flt y=>obtain ⟨t,q⟩:=(show ∃t,u=Lx y t from rx);cases q;exact bg W.kitx_float I.kIn au e (fun z=>nomatch z) h
 | @lst a xs ea =>
  cases (show u=y6 a from rx)
  obtain ⟨_,_,n,_,h1⟩:=(show P5 X.prog X.w H s.heap a (.lst xs) from I.hok a _ ea)
  exact bg EB I.kIn ⟨_,h1,rfl⟩ e (fun z=>nomatch z) h
 | @frz a ob xs ea =>
  cases (show u=y6 a from rx)
  obtain ⟨_,_,_,n,_,h1⟩:=(show P5 X.prog X.w H s.heap a (.frz ob (.lst xs)) from I.hok a _ ea)
  exact bg EB I.kIn ⟨_,h1,rfl⟩ e (fun z=>nomatch z) h
 | @tup a xs ea =>
  cases (show u=y6 a from rx)
  obtain ⟨_,_,_,p⟩:=(show P5 X.prog X.w H s.heap a (.tup xs) from I.hok a _ ea)
  obtain ⟨o,h1,h2,_⟩:=p
  exact bg W.kitx_tuple I.kIn ⟨o,h1,h2⟩ e (fun z=>nomatch z) h
 | @dK a kvs ea =>
  cases (show u=y6 a from rx)
  obtain ⟨_,_,vs,_,p⟩:=(show P5 X.prog X.w H s.heap a (.dK kvs) from I.hok a _ ea)
  obtain ⟨o,es,ep,h1,h2,_⟩:=p
  exact bg W.kitx_dict I.kIn ⟨o,h1,h2.1⟩ e (fun z=>nomatch z) h
 | @dT a kvs ea =>
  cases (show u=y6 a from rx)
  obtain ⟨_,_,xs,_,o,es,ep,h1,h2,_⟩:=(show P5 X.prog X.w H s.heap a (.dT kvs) from I.hok a _ ea)
  exact bg W.kitx_dict I.kIn ⟨o,h1,h2.1⟩ e (fun z=>nomatch z) h
 | @ins a C dx fs ea cl ha hn htk hm =>
  cases (show u=y6 a from rx)
  obtain ⟨mA,O,_⟩:=Fs I.hok ea
  obtain ⟨od,J,_⟩:=O.look
  exact bg (W.kitx_own (cl.get _) cl.hd ha hn htk hm) I.kIn J e (fun z=>nomatch z) h
end
structure cE (k:Nat) (A:A5):Prop where
 hd:A.handled=none
 dp:A.depth+3*k+5<recursionLimit
 un:A.units+16*k+200<bj
variable {k:Nat}
theorem cE.mono {j:Nat}(r:cE k A) (h:j<=k):cE j A:=⟨r.hd,by have:=r.dp;lia,by have:=r.un;lia⟩
theorem cE.deeper {k:Nat}{A:A5} (r:cE (k+1) A) (env:Env):cE k (A.deeper env):=
 ⟨r.hd,by have:=r.dp;show A.depth+1+3*k+5<_;lia,by have:=r.un;show A.units+3+16*k+200<_;lia⟩
theorem cE.depth {k:Nat}{A:A5} (r:cE k A):A.depth<recursionLimit:=by have:=r.dp;lia
theorem cE.units {k:Nat}{A:A5} (r:cE k A):A.units+64<bj:=by have:=r.un;lia
noncomputable def mD:TA:=fun _ H Q=>Q [] H
noncomputable def bM (ta:TE) (tr:TA):TA:=fun σ H Q=>ta σ H fun x H1=>tr σ H1 fun xs H2=>Q (x::xs) H2
section
variable {X:Cx}{e:Expr}{es:List Expr}{te:TE}{t:TA}{pos:Pos}
theorem d8:PA X [] mD:=fun _ _ _ _ H Q I h=>Em ⟨[],H,I,.nil,h⟩
theorem b7 (ha:PE X e te) (hr:PA X es t) (hs:C4 (e::es) X.env=(false,eval e X.env)::C4 es X.env:=by rfl):PA X (e::es) (bM te t):=by
 intro pos pins s σ H Q I h
 rw[hs]
 show m6 _ _ (spliced ((false,eval e X.env)::aU pos (C4 es X.env))) _ _ s
 refine mn (X0 (ha pins s σ H _ I h) fun u s1 ⟨x,H1,I1,r1,q1⟩=>?_)
 exact X0 (hr pos pins s1 σ H1 _ I1 q1) fun us s2 ⟨xs,H2,I2,r2,q2⟩=>⟨x::xs,H2,I2,.cons r1 r2,q2⟩
noncomputable def tq (t:TA):TE:=fun σ H Q=>t σ H fun xs H1=>xs.length<=i6/\∀p,H1 p=none->Q (.ref p) (n5 H1 p (.tup xs))
noncomputable def JM (t:TA):TE:=fun σ H Q=>t σ H fun xs H1=>xs.length<=i6/\∀p,H1 p=none->Q (.ref p) (n5 H1 p (.lst xs))
theorem D3 {x1} (h:PA X es t):PE X (.Tuple es x1 pos) (tq t):=by
 intro pins s σ H Q I hq
 refine wpAny_Tuple_spliced (X0 (h pos pins s σ H _ I hq) fun us s1 ⟨xs,H1,I1,r,z,q⟩=>⟨by rw[<- r.length];exact z,?_⟩)
 have hf:H1 s1.heap.objs.size=none:=I1.hok.fresh (i8 _)
 refine ⟨.ref s1.heap.objs.size,n5 H1 s1.heap.objs.size (.tup xs),I1.laid (t':=s1.toks) (fun b u e=>f9 _ e) (i8 _) ?_,rfl,q _ hf⟩
 exact ⟨z,us,r,⟨_,t7 _ rfl,rfl,_,rfl⟩⟩
theorem N8 (h:PA X es t):PE X (.List es pos) (JM t):=by
 intro pins s σ H Q I hq
 refine wpAny_List_spliced (X0 (h pos pins s σ H _ I hq) fun us s1 ⟨xs,H1,I1,r,z,q⟩=>⟨by rw[<- r.length];exact z,?_⟩)
 have hf:H1 s1.heap.objs.size=none:=I1.hok.fresh (i8 _)
 refine ⟨.ref s1.heap.objs.size,n5 H1 s1.heap.objs.size (.lst xs),I1.laid (t':=s1.toks) (fun b u e=>f9 _ e) (i8 _) ?_,rfl,q _ hf⟩
 exact ⟨z,us,0,r,t7 _ rfl⟩
end
noncomputable abbrev Sp:=List V->Hp->VK->XK->Prop
noncomputable abbrev yQ:=List Env->Hp->d7->XK->b9->d7->Prop
structure Ea (P:j6) (w:r9) (K:m9) (mg:Str->Option b9) (base:Heap) (A:A5) (outer:List Env) (s:d7) (H:Hp):Prop where
 frames:A.frames=some outer
 mod:Mod K mg base
 bs:∀b o,base.get? b=some o->s.heap.get? b=some o/\H b=none
 bsz:base.objs.size<=s.heap.objs.size
 funs:s.heap.FunFrames base outer
 frf:∀b∈lN outer,H b=none
 hok:cV P w H s.heap
 bare:jv s.gens
noncomputable def CE (outer:List Env) (P:j6) (w:r9) (H:Hp) (s:d7) (Q:VK) (u:b9) (s':d7):Prop :=
 ∃v H',s'.os=s.os/\jv s'.gens/\Un (lN outer) [] H H' s.heap s'.heap/\cV P w H' s'.heap/\Q4 v u/\Q v H'
noncomputable def CR (CX:yQ) (outer:List Env) (P:j6) (w:r9) (H:Hp) (s:d7) (Q:VK) (E:XK) (r:vb) (s':d7):Prop :=
 match r with
 | .ok (.ret u)=>CE outer P w H s Q u s'
 | .ok _=>False
 | .error e=>CX outer H s E e s'
structure N0 (P:j6) (w:r9) (K:m9) (mg:Str->Option b9) (base:Heap) (CX:yQ) (k:Nat) (f:Addr) (fd:D6) (ps:List Str) (sp:Sp):Prop where
 len:∀vs H Q E,sp vs H Q E->vs.length=ps.length
 run:∀(A:A5) (outer:List Env) (s:d7) (H:Hp) (args:Args) (us:List b9) (vs:List V) (Q:VK) (E:XK),cE k A->Ea P w K mg base A outer s H->tf s fd args (ps.zip us)->M9 vs us->sp vs H Q E ->
  kX (t8 P w) A (.call (.ref f) args) (CR CX outer P w H s Q E) s
theorem N0.mono {P:j6}{w:r9}{K:m9}{mg:Str->Option b9}{base:Heap}{CX:yQ}{j k:Nat}{f:Addr}{fd:D6}{ps:List Str}{sp:Sp} (F:N0 P w K mg base CX j f fd ps sp) (h:j<=k):
  N0 P w K mg base CX k f fd ps sp:=⟨F.len,fun A outer s H args us vs Q E hr=>F.run A outer s H args us vs Q E (hr.mono h)⟩
variable {mg:Str->Option b9}{base:Heap}{CX:yQ}{f:Addr}{ps:List Str}
theorem N0.imp {fd:D6}{sp sp':Sp} (F:N0 P w K mg base CX k f fd ps sp)
  (h:∀vs H Q E,sp' vs H Q E->sp vs H Q E):N0 P w K mg base CX k f fd ps sp' :=
 ⟨fun vs H Q E q=>F.len vs H Q E (h _ _ _ _ q),fun A outer s H args us vs Q E hr he hb hv hs=>F.run A outer s H args us vs Q E hr he hb hv (h _ _ _ _ hs)⟩
section
variable {X:Cx}{pins:List (Addr × Obj)}{σ:St}{H:Hp}{s s':d7}
theorem E6.env0 (I:E6 X pins σ H s):Ea X.prog X.w X.K X.mg X.base X.A X.stack s H :=
 ⟨I.ok.frames,I.ok.mod,I.bs,n6 I.ok.bsz I.sz,I.stack,I.stkFree,I.hok,I.bare⟩
theorem E6.after {Q:VK}{u:b9} (I:E6 X pins σ H s) (h:CE X.stack X.prog X.w H s Q u s'):EP X pins σ Q u s':=by
 obtain ⟨v,H',os,bare,un,hok,r,q⟩:=h
 obtain ⟨hh,g,d,t,os'⟩:=s'
 obtain rfl:os'=s.os:=os
 exact ⟨v,H',I.call (h':=hh) (g':=g) (d':=d) (t':=t) (ch:=[]) un hok bare (fun b z=>absurd z (by simp)),r,q⟩
end
noncomputable def Ce (sp:Sp) (dvs:List V) (E:XK) (t:TA):TE:=fun σ H Q=>t σ H fun vs H1=>sp (vs++dvs) H1 Q E
noncomputable def jV (K:m9) (fd:D6) (ps:List Str) (ds:List b9):Prop :=
 ∀(s:d7) (us:List b9),K.In s.heap->(us++ds).length=ps.length->tf s fd ⟨us,[]⟩ (ps.zip (us++ds))
theorem jV.all {fd:D6}(h:∀us:List b9,us.length=ps.length->Ai fd ⟨us,[]⟩=pure (ps.zip us)):jV K fd ps []:=fun s us _ hl=>by
 rw[S6] at hl ⊢
 exact .of_eq (h us hl)
noncomputable def kK (CX:yQ) (X:Cx) (E:XK):Prop:=∀(pins:List (Addr × Obj)) (σ:St) (H:Hp) (s:d7) (e:b9) (s':d7),E6 X pins σ H s->CX X.stack H s E e s'->X.xe e s'
section
variable {X:Cx}{CX:yQ}{k:Nat}{f C:Addr}{fd:D6}{ps:List Str}{sp:Sp}{dvs:List V}{ds:List b9}{E:XK}{x m:Str}{p pos apos:Pos}{e o:Expr}{es:List Expr}{ta:TE}{t:TA}
theorem HD {pins:List (Addr × Obj)}{σ:St}{H:Hp}{s:d7}{Q:VK}{us:List b9}{vs:List V} (F:N0 X.prog X.w X.K X.mg X.base CX k f fd ps sp) (hr:cE k X.A) (hb:jV X.K fd ps ds) (hd:M9 dvs ds) (hx:kK CX X E)
  (I:E6 X pins σ H s) (r:M9 vs us) (h:sp (vs++dvs) H Q E):m6 (t8 X.prog X.w) X.A (call (.ref f) us) (EP X pins σ Q) X.xe s:=by
 have r2:M9 (vs++dvs) (us++ds):=r.append hd
 have hl:(us++ds).length=ps.length:=by rw[<- r2.length];exact F.len _ _ _ _ h
 refine qK (gM (F.run X.A X.stack s H ⟨us,[]⟩ (us++ds) (vs++dvs) Q E hr I.env0 (hb s us I.kIn hl) r2 h) fun r s' hq=>?_)
 cases r with
 | error e=>exact hx pins σ H s e s' I hq
 | ok fl =>
  cases fl with
  | ret u=>exact I.after hq
  | next=>exact G8 hq
  | brk=>exact G8 hq
  | cont=>exact G8 hq
theorem zv (F:N0 X.prog X.w X.K X.mg X.base CX k f fd ps sp) (hr:cE k X.A) (hg:Gl X x) (hm:X.mg x=some (.ref f)) (hk:cD X.K (.ref f)=true) (hb:jV X.K fd ps ds) (hd:M9 dvs ds) (hx:kK CX X E)
  (ha:PA X (e::es) t) (hdb:(x == ("__debug__":Str))=false:=by decide) (he:C4 (e::es) X.env=(false,eval e X.env)::C4 es X.env:=by rfl) (hpl:(aU pos (C4 es X.env)).any (·.1)=false:=by rfl):
  PE X (.Call (.Name x p) (e::es) [] pos) (Ce sp dvs E t):=by
 intro pins s σ H Q I h
 refine dn (lI I hg hm ?_ hdb)
 refine W.callWith_K (h₀:=X.base) I.ok.mod.kin hk (X0 (ha pos pins s σ H _ I h) fun us s1 ⟨vs,H1,I1,r,q⟩=>⟨I1.kIn,?_⟩) he hpl
 exact HD F hr hb hd hx I1 r q
structure Mk (K:m9) (C f:Addr):Prop where
 makes:W.makesIn K C=true
 init:X8 K (.ref C) "__init__"=some (some (.ref f))
 fn:W.isFn K (.ref f)=true
 kp:cD K (.ref C)=true
end
section
variable {X:Cx}{CX:yQ}{k:Nat}{f C:Addr}{fd:D6}{ps ks:List Str}{sp:Sp}{E:XK}{x m:Str}{p pos apos kpos:Pos}{e o:Expr}{es:List Expr}{kws:List oo}{te ta:TE}{t tk:TA}{nm:Option Str}
structure KBinds (K:m9) (fd:D6) (ps ks:List Str) (g:List b9->List b9->List b9) (gV:List V->List V->List V):Prop where
 to:∀(s:d7) (us ws:List b9),K.In s.heap->(g us ws).length=ps.length->tf s fd ⟨us,ks.zip ws⟩ (ps.zip (g us ws))
 rel:∀{vs:List V}{us:List b9}{zs:List V}{ws:List b9},M9 vs us->M9 zs ws->M9 (gV vs zs) (g us ws)
variable {g:List b9->List b9->List b9}{gV:List V->List V->List V}
end
structure D9 (N P:List Str) (sc:Q0):Prop where
 kind:sc.kind=.function
 co:sc.isCoroutine=false
 gen:sc.isGenerator=false
 nd:N.Nodup
 pre:N.take P.length=P
 par:∀x∈P,sc.names.lookup x=some .local ∨ sc.names.lookup x=some .cell
 nofree:∀y∈sc.names,y.2≠.free
theorem sx {kindOf:Str->Option aB}{x:Str}:∀{binds:List (Str × b9)}{m:Str->Option b9},(∀v,(x,v) ∉ binds)->Ee kindOf binds m x=m x
 | [],_,_=>rfl
 | (n,v)::r,m,h=>by
  unfold Ee
  rw[sx fun w hw=>h w (j9 _ hw)]
  split
  ·have:x≠n:=by rintro rfl;exact h v j8
   simp[this]
  ·rfl
theorem sC {kindOf:Str->Option aB}{x:Str}:∀{binds:List (Str × b9)}{m:Str->Option b9},(∀v,(x,v) ∉ binds)->Ef kindOf binds m x=m x
 | [],_,_=>rfl
 | (n,v)::r,m,h=>by
  unfold Ef
  rw[sC fun w hw=>h w (j9 _ hw)]
  split
  ·rfl
  ·have:x≠n:=by rintro rfl;exact h v j8
   simp[this]
theorem sy {kindOf:Str->Option aB}{x:Str}{v:b9}:∀{P:List Str}{vs:List b9}{i:Nat}{m:Str->Option b9},P.Nodup->P[i]?=some x->vs[i]?=some v->kindOf x=some .local ->
  Ee kindOf (P.zip vs) m x=some v
 | [],_,_,_,_,h,_,_=>by simp at h
 | _::_,[],_,_,_,_,h,_=>by simp at h
 | p::P,w::vs,0,m,nd,h1,h2,hk=>by
  simp at h1 h2;subst h1;subst h2
  show Ee kindOf ((p,w)::P.zip vs) m p=_
  unfold Ee
  rw[sx fun v hv=>(List.nodup_cons.mp nd).1 (jG hv).1,if_pos hk]
  simp
 | p::P,w::vs,i+1,m,nd,h1,h2,hk=>by
  show Ee kindOf ((p,w)::P.zip vs) m x=_
  unfold Ee
  exact sy (i:=i) (List.nodup_cons.mp nd).2 (by simpa using h1) (by simpa using h2) hk
theorem sD {kindOf:Str->Option aB}{x:Str}{v:b9}:∀{P:List Str}{vs:List b9}{i:Nat}{m:Str->Option b9},P.Nodup->P[i]?=some x->vs[i]?=some v->kindOf x≠some .local ->
  Ef kindOf (P.zip vs) m x=some v
 | [],_,_,_,_,h,_,_=>by simp at h
 | _::_,[],_,_,_,_,h,_=>by simp at h
 | p::P,w::vs,0,m,nd,h1,h2,hk=>by
  simp at h1 h2;subst h1;subst h2
  show Ef kindOf ((p,w)::P.zip vs) m p=_
  unfold Ef
  rw[sC fun v hv=>(List.nodup_cons.mp nd).1 (jG hv).1,if_neg hk]
  simp
 | p::P,w::vs,i+1,m,nd,h1,h2,hk=>by
  show Ef kindOf ((p,w)::P.zip vs) m x=_
  unfold Ef
  exact sD (i:=i) (List.nodup_cons.mp nd).2 (by simpa using h1) (by simpa using h2) hk
noncomputable def start (N:List Str) (vs:List V):St:=vs.map some++A7 (N.length - vs.length) none
noncomputable def gC (CX:yQ) (P:j6) (w:r9) (K:m9) (mg:Str->Option b9) (base:Heap) (N:List Str) (qual:Str) (scope:Q0) (f:Addr) (cd:b9) (A:A5) (outer:List Env) (s:d7) (H:Hp) (E:XK):Cx where
 prog:=P
 w:=w
 K:=K
 mg:=mg
 base:=base
 A:=A.deeper (ae qual scope s.heap.objs.size f cd)
 N:=N
 s₀:=s
 H₀:=H
 env:=ae qual scope s.heap.objs.size f cd
 outer:=outer
 stack:=ae qual scope s.heap.objs.size f cd::outer
 ex:=[]
 calm:=true
 fn:=fun _=>true
 pn:=[]
 xe:=fun e s'=>m6 (t8 P w) (A.deeper (ae qual scope s.heap.objs.size f cd)) (Ex (ae qual scope s.heap.objs.size f cd) e) (fun _ s''=>CX outer H s E e s'') (fun e' s''=>CX outer H s E e' s'') s'
theorem lQ {sc:Q0}{n:Nat}{x:Str} (h:sc.names.lookup x=some .cell):∃c,(Q7 n sc.names []).lookup x=some c:=by
 have q:=sO sc.names n [] (.inl h)
 exact Option.isSome_iff_exists.mp q
theorem rY {N:List Str}{qual:Str}{scope:Q0}{cd:b9}{outer:List Env}{s1:d7}{E:XK}{us:List b9}{vs:List V}
  (S:D9 N ps scope) (hd:A.handled=none) (e0:Ea P w K mg base A outer s H) (hl:vs.length=ps.length) (r:M9 vs us)
  (x:InCallC s s.heap.objs.size (Ee (ae qual scope s.heap.objs.size f cd).kindOf (ps.zip us) fun _=>none) (Q7 (s.heap.objs.size+1) scope.names []) (Ef (ae qual scope s.heap.objs.size f cd).kindOf (ps.zip us) fun _=>none) s1):
  E6 (gC CX P w K mg base N qual scope f cd A outer s H E) [] (start N vs) H s1:=by
 have hpl:ps.length<=N.length:=by have:=congrArg Bv S.pre;rw[y7] at this;lia
 obtain ⟨h1,tk,rfl,hk⟩:=x.done
 have noA:∀b:Addr,b ∉ (gC CX P w K mg base N qual scope f cd A outer s H E).ex:=fun b z=>absurd (show b∈([]:List Addr) from z) (by simp)
 refine ⟨⟨e0.mod,S.kind,rfl,rfl,i8 _,fun y z c h1 h2=>?_,fun y hy=>?_,fun y c _ h=>?_,fun _=>hd,yW e0.frames,.inr ⟨rfl,rfl⟩,fun b z=>absurd z (noA b),e0.bs,e0.bsz,fun b _ _=>noA b,fun b z=>absurd z (noA b),e0.funs,e0.frf⟩,
  rfl,e0.bare,Un.kept hk,⟨_,x.toInCall.ns,fun i y v h1 h2 h3=>?_⟩,fun y c h=>⟨_,x.cell y c h⟩,e0.hok.fresh (i8 _),fun y c h=>?_,fun p hp=>absurd (show p∈([]:List (Addr × Obj)) from hp) (by simp),e0.hok.kept hk,?_⟩
 ·exact name_of_addr x.apart (bF h1) (bF h2)
 ·have hy:scope.names.lookup y=some .cell ∨ scope.names.lookup y=some .free:=hy
  rcases hy with hy|hy
  ·exact lQ hy
  ·exact absurd rfl (S.nofree _ (bF hy))
 ·exact U8 (x.above y c (bF h))
 ·have hi:i<vs.length:=by
   unfold start at h2
   by_cases hi:i<vs.length
   ·exact hi
   ·rw[List.getElem?_append_right (by simpa using hi)] at h2
    rw[List.getElem?_replicate] at h2
    split at h2 <;> cases h2
  have ha:vs[i]?=some v:=by
   unfold start at h2
   rw[List.getElem?_append_left (by simpa using hi),A4] at h2
   cases e:vs[i]? with
   | none=>rw[e] at h2;cases h2
   | some a=>rw[e] at h2;cases h2;rfl
  obtain ⟨u,hu,rv⟩:=r.get ha
  have hp:ps[i]?=some y:=by
   rw[<- S.pre,List.getElem?_take_of_lt (by lia)];exact h1
  have ndP:ps.Nodup:=by rw[<- S.pre];exact S.nd.sublist (EE _ _)
  refine ⟨u,rv,?_⟩
  rcases S.par y (C5 hp) with k|k
  ·exact .inl ⟨k,sy ndP hp hu k⟩
  ·obtain ⟨c,e⟩:=lQ (n:=s.heap.objs.size+1) k
   refine .inr ⟨.inl k,c,e,?_⟩
   have q:=x.cell y c e
   rw[sD ndP hp hu (by show scope.names.lookup y≠_;rw[k];decide)] at q
   exact q
 ·exact e0.hok.fresh (U8 (x.above y c (bF h)))
 ·unfold start
  show _=N.length
  rw[v9,d6,P0]
  lia
theorem DJ {name qual:Str}{params:dN}{body:List Stmt}{scope:Q0}{dV kV doc pm cdv ct oc:b9}{an od:Option Addr}
  {osl:Array (Option b9)}{N:List Str}{sp:Sp} (lk:K.lookup f=some ⟨oc,od,.func (gN name qual params body scope dV kV doc pm an cdv ct),osl⟩) (hcd:jF K cdv qual=true) (S:D9 N ps scope)
  (len:∀vs H Q E,sp vs H Q E->vs.length=ps.length)
  (hbody:∀(A:A5) (outer:List Env) (s:d7) (H:Hp) (vs:List V) (Q:VK) (E:XK),cE k (A.deeper (ae qual scope s.heap.objs.size f cdv))->sp vs H Q E ->
   ∃t,qI (gC CX P w K mg base N qual scope f cdv A outer s H E) body t/\t { nx:=fun _ H'=>Q .non H',rt:=Q } (start N vs) H):
  N0 P w K mg base CX (k+1) f (gN name qual params body scope dV kV doc pm an cdv ct) ps sp:=by
 refine ⟨len,fun A outer s H args us vs Q E hr e0 hb r hsp=>?_⟩
 have hl:=len _ _ _ _ hsp
 have KX:K.In s.heap:=e0.mod.kin.keeps fun b o e=>(e0.bs b o e).1
 have lim:s.heap.NoLimit:=e0.mod.nolimit.keeps fun b o e=>(e0.bs b o e).1
 have hkind:∀y∈ps.zip us,scope.names.lookup y.1=some .local ∨ (scope.names.lookup y.1=some .cell/\((Q7 (s.heap.objs.size+1) scope.names []).lookup y.1).isSome=true):=fun ⟨n,v⟩ hy=>by
  rcases S.par n (jG hy).1 with q|q
  ·exact .inl q
  ·exact .inr ⟨q,sO _ _ _ (.inl q)⟩
 refine FN hr.depth (KX _ _ lk) rfl S.co S.gen rfl (W.codeRec_of KX hcd) (hb _ _ _ _ ?_)
 refine Ae S.kind hkind fun env he s1 x=>?_
 subst he
 refine ⟨lim.keeps x.toInCall.keep,codeAny_func ?_⟩
 obtain ⟨t,ht,hq⟩:=hbody A outer s H vs Q E (hr.deeper _) hsp
 have I:E6 (gC CX P w K mg base N qual scope f cdv A outer s H E) [] (start N vs) H s1:=rY S hr.hd e0 hl r x
 refine K5 (ht [] s1 (start N vs) H _ I hq) (fun fl s' hs=>?_) fun e s' hs=>hs
 have fin:∀{σ':St}{H':Hp}{v:V}{u:b9},E6 (gC CX P w K mg base N qual scope f cdv A outer s H E) [] σ' H' s'->Q4 v u->Q v H'->CE outer P w H s Q u s' :=
  fun {σ' H' v u} J rv q=>⟨v,H',J.os,J.bare,J.base,J.hok,rv,q⟩
 cases fl with
 | ret u =>
  obtain ⟨v,σ',H',J,rv,q⟩:=hs
  exact fin J rv q
 | next =>
  obtain ⟨σ',H',J,q⟩:=hs
  exact fin (v:=V.non) (u:=E9) J rfl q
 | brk =>
  obtain ⟨_,_,_,q⟩:=hs
  exact G8 q
 | cont =>
  obtain ⟨_,_,_,q⟩:=hs
  exact G8 q
section
variable {X:Cx}{x:Str}{p pos:Pos}{e:Expr}{es:List Expr}{t:TA}{id T:String}{r:List V->Hp->VK->Prop}
noncomputable def tCB (r:List V->Hp->VK->Prop) (t:TA):TE:=fun σ H Q=>t σ H fun vs H1=>r vs H1 Q
theorem u5 (hc:cx X (.builtin id) r) (hg:Gl X x) (hm:X.mg x=none) (hv:X4 x=some (.builtin id)) (ha:PA X (e::es) t) (hn:x≠"__name__":=by decide) (hdb:(x == ("__debug__":Str))=false:=by decide)
  (he:C4 (e::es) X.env=(false,eval e X.env)::C4 es X.env:=by rfl) (hpl:(aU pos (C4 es X.env)).any (·.1)=false:=by rfl):PE X (.Call (.Name x p) (e::es) [] pos) (tCB r t):=by
 intro pins s σ H Q I h
 refine dn (mW I hg hm hv ?_ hn hdb)
 exact PyProof.Rows.callWith_builtin1 (X0 (ha pos pins s σ H _ I h) fun us s1 ⟨vs,H1,I1,r1,q1⟩=>hc pins s1 σ H1 vs us Q I1 r1 q1) he hpl
theorem G7 (hc:cx X (.type T) r) (hg:Gl X x) (hm:X.mg x=none) (hv:X4 x=some (.type T)) (ha:PA X (e::es) t) (hn:x≠"__name__":=by decide) (hdb:(x == ("__debug__":Str))=false:=by decide)
  (he:C4 (e::es) X.env=(false,eval e X.env)::C4 es X.env:=by rfl) (hpl:(aU pos (C4 es X.env)).any (·.1)=false:=by rfl):PE X (.Call (.Name x p) (e::es) [] pos) (tCB r t):=by
 intro pins s σ H Q I h
 refine dn (mW I hg hm hv ?_ hn hdb)
 exact af (X0 (ha pos pins s σ H _ I h) fun us s1 ⟨vs,H1,I1,r1,q1⟩=>hc pins s1 σ H1 vs us Q I1 r1 q1) he hpl
end
end L2
namespace HT
open PySem PyProof.Rows
noncomputable def P4:List Int->List Int->Bool
 | [],[]=>false
 | [],_::_=>true
 | _::_,[]=>false
 | x::xs,y::ys=>if x=y then P4 xs ys else decide (x<y)
theorem bL (x y:Int) (xs ys:List Int):P4 (x::xs) (y::ys)=if x=y then P4 xs ys else decide (x<y):=rfl
theorem qZ:P4 [] []=false:=rfl
theorem fm (y:Int) (ys:List Int):P4 [] (y::ys)=true:=rfl
theorem cq (x:Int) (xs:List Int):P4 (x::xs) []=false:=rfl
theorem DK (A:A5) (s:d7) (a:Int) (t:Tok) (c:Int) (u:Tok):∃e,sP A s (.int a t) (.int c u) e/\(e=true ↔ a=c):=
 ⟨(a == c),jN a t c u,by simp⟩
theorem CI (A:A5) (s:d7) (a:Int) (t:Tok) (c:Int) (u:Tok) (prog:j6) (w:r9) (E:b9->d7->Prop) (Q:b9->d7->Prop) (h:Q (.bool (decide (a<c))) s):
  m6 (t8 prog w) A (richCompare .Lt (.int a t) (.int c u)) Q E s :=
 (PyProof.Rows.lt_int h:m6 (t8 prog w) A (T8 .Lt (.int a t) (.int c u)) Q E s)
section
open PySem.SeqAt
open PySem.AutoSeq1 (wpAny_loadPart')
open PySem.MeetsSeq PySem.MeetsSeq2 PySem.MeetsSeq3
theorem qU (l b:Addr) (items items2:Array b9) (n n2:Nat) (dd dd2:Option Addr) (sl sl2:Array (Option b9)) (ns ms:List Int) (hi:aX items.toList ns) (hj:aX items2.toList ms):
  Eh (bD.«tuple.__lt__» ⟨[.ref l,.ref b],[]⟩)
   (fun _ R s=>s.heap.get? l=some { cls:=.type "tuple",dict:=dd,data:=.seq items n,slots:=sl }/\s.heap.get? b=some { cls:=.type "tuple",dict:=dd2,data:=.seq items2 n2,slots:=sl2 } /\
    R (.ok (.ret (.bool (P4 ns ms)))) s):=
 .of_wp fun prog w A R s h=>by
  obtain ⟨hp,g,d,tk,os⟩:=s;obtain ⟨hl,hb,h⟩:=h
  have f2:=AutoSeq1.sub_tuple_tuple
  have z1:items.size=ns.length:=by rw[<- hi.length];simp
  have z2:items2.size=ms.length:=by rw[<- hj.length];simp
  wp_walk using lX hl,lX hb,LN _ (fun gj b s'=>b.1=none/\s'=⟨hp,g,d,tk,os⟩/\∃(vs ws:List b9) (ns' ms':List Int),gj=vs.zip ws /\
   aX vs ns'/\aX ws ms'/\ns'.length+items2.size=ms'.length+items.size/\R (.ok (.ret (.bool (P4 ns' ms')))) ⟨hp,g,d,tk,os⟩) _
  case turn =>
   rintro ⟨y,x⟩ gj b s' ⟨hb',rfl,vs,ws,ns',ms',hz,hvi,hwi,hlen,hR⟩
   cases hvi with
   | nil=>rw[ED] at hz;cases hz
   | cons a t hvi' =>
    cases hwi with
    | nil=>rw[List.zip_nil_right] at hz;cases hz
    | cons c u hwi' =>
     rw[fV] at hz
     injection hz with hyx hrest
     injection hyx with hy hx
     subst hy hx
     rw[bL] at hR
     simp only[A8] at hlen
     obtain ⟨e,he,hiff⟩:=DK A.in1 ⟨hp,g,d,tk,os⟩ a t c u
     refine b8 (he prog w _ _ ?_)
     cases e with
     | true =>
      rw[if_pos (hiff.mp rfl)] at hR
      wp_walk
      exact ⟨rfl,rfl,_,_,_,_,hrest,hvi',hwi',by lia,hR⟩
     | false =>
      rw[if_neg (fun q=>absurd (hiff.mpr q) A0)] at hR
      have hri:=CI A.in1 ⟨hp,g,d,tk,os⟩ a t c u prog w
      wp_walk using hri
      exact ⟨_,rfl,by simpa using hR⟩
  case fin =>
   rintro ⟨b1,b2⟩ s' ⟨hb',rfl,vs,ws,ns',ms',hz,hvi,hwi,hlen,hR⟩
   simp only at hb'
   subst hb'
   have hv:P4 ns' ms'=decide (items.size<items2.size):=by
    cases hvi with
    | nil =>
     cases hwi with
     | nil =>
      simp only[S5] at hlen
      rw[qZ]
      exact (decide_eq_false (by lia)).symm
     | cons c u hw =>
      simp only[S5,A8] at hlen
      rw[fm]
      exact (decide_eq_true (by lia)).symm
    | cons a t hv =>
     cases hwi with
     | nil =>
      simp only[S5,A8] at hlen
      rw[cq]
      exact (decide_eq_false (by lia)).symm
     | cons c u hw =>
      rw[fV] at hz
      cases hz
   rw[hv] at hR
   wp_walk
   exact ⟨_,rfl,by simpa [Builtin.Tuple.tupleCompareSizes] using hR⟩
  case h =>
   exact ⟨rfl,rfl,items.toList,items2.toList,ns,ms,rfl,hi,hj,by lia,h⟩
end
section
variable {prog:j6}{w:r9}{A:A5}{E:b9->d7->Prop}{s:d7}
variable {Q:b9->d7->Prop}
theorem yr {l b:Addr}{items items2:Array b9}{ns ms:List Int}(hl:Ao s.heap l items) (hb:Ao s.heap b items2) (hi:aX items.toList ns) (hj:aX items2.toList ms)
  (hu:A.units<bj) (h:Q (.bool (P4 ns ms)) s):m6 (t8 prog w) A (T8 .Lt (.ref l) (.ref b)) Q E s:=by
 obtain ⟨⟨cls,dd,data,sl⟩,ho,hc,n,hd⟩:=id hl
 obtain ⟨⟨cls2,dd2,data2,sl2⟩,ho2,hc2,n2,hd2⟩:=id hb
 simp only at hc hd hc2 hd2
 subst hc hd hc2 hd2
 exact richCompare_meets_room (op:=.Lt) ⟨_,ho,rfl⟩ ⟨_,ho2,rfl⟩ PySem.F.slot_tuple_lt PySem.F.entry_tuple_lt (PySem.F.args_tuple_lt_2 _ _) (qU l b items items2 n n2 dd dd2 sl sl2 ns ms hi hj)
  ⟨ho,ho2,show Y5 (P4 ns ms)≠Aj/\Q (.bool (P4 ns ms)) s from ⟨(fun x=>nomatch x),h⟩⟩ hu
theorem Fz {t b:Addr}{vs ws:List b9}(ht:Ao s.heap t vs.toArray) (hb:Ao s.heap b ws.toArray) (hv:vs≠[])
  (h1:ws=[]->Q (.ref t) s) (h2:ws≠[]->Q (.ref s.heap.objs.size) { s with heap:=s.heap.push { cls:=.type "tuple",data:=.seq (vs++ws).toArray } })
  (hsz:vs.length+ws.length<=i6):m6 (t8 prog w) A (W8 .Add (.ref t) (.ref b)) Q E s:=by
 obtain ⟨⟨cls,dd,data,sl⟩,ho,hc,n,hd⟩:=id ht
 obtain ⟨⟨cls2,dd2,data2,sl2⟩,ho2,hc2,n2,hd2⟩:=id hb
 simp only at hc hd hc2 hd2
 subst hc hd hc2 hd2
 have e:vs.toArray++ws.toArray=(vs++ws).toArray:=by simp
 by_cases hw:ws=[]
 ·exact Ey ⟨_,ho,rfl⟩ ⟨_,ho2,rfl⟩ va BF iL gQ (fY _ _)
   (tuple_addW1 t b vs.toArray ws.toArray n n2 dd dd2 sl sl2 (by simpa using hv) (by simp[hw])) ⟨ho,ho2,h1 hw⟩
 ·refine Ey ⟨_,ho,rfl⟩ ⟨_,ho2,rfl⟩ va BF iL gQ (fY _ _)
   (tuple_addW2 t b vs.toArray ws.toArray n n2 dd dd2 sl sl2 (by simpa using hv) (by simpa using hw) (by rw[n9,n9];exact hsz)) ⟨ho,ho2,?_⟩
  rw[e]
  exact h2 hw
noncomputable def cZ (n d:Nat):Option Int->Nat
 | none=>d
 | some v=>if v<0 then (v+(n:Int)).toNat else min v.toNat n
theorem vH (n d:Nat):cZ n d none=d:=rfl
theorem zj (n d k:Nat):cZ n d (some (k:Int))=min k n:=by
 show (if (k:Int)<0 then ((k:Int)+(n:Int)).toNat else min (k:Int).toNat n)=min k n
 rw[if_neg (by lia),S0]
theorem HC (n d:Nat) (hd:d<=n) (o:Option Int):cZ n d o<=n:=by
 cases o with
 | none=>exact hd
 | some v =>
  show (if v<0 then (v+(n:Int)).toNat else min v.toNat n)<=n
  by_cases hv:v<0
  ·rw[if_pos hv];lia
  ·rw[if_neg hv];exact Gw _ _
theorem zT (v:Int) (n d:Nat):(if v<0 then max (v+(n:Int)) 0 else min v (n:Int))=((cZ n d (some v):Nat):Int):=by
 show (if v<0 then max (v+(n:Int)) 0 else min v (n:Int))=(((if v<0 then (v+(n:Int)).toNat else min v.toNat n):Nat):Int)
 by_cases hv:v<0
 ·simp only[if_pos hv];lia
 ·simp only[if_neg hv];lia
theorem yM (lo hi:Option Int) (n:Nat):eg lo hi 1 (n:Int)=(((cZ n 0 lo:Nat):Int),((cZ n n hi:Nat):Int)):=by
 have h1:¬ ((1:Int)<0):=by lia
 unfold eg
 simp only[h1,if_false]
 refine Bq ?_ ?_
 ·cases lo with
  | none=>rfl
  | some v=>exact zT v n 0
 ·cases hi with
  | none=>rfl
  | some v=>exact zT v n n
theorem xS (i j:Nat):aH (i:Int) (j:Int) 1=j - i:=by
 unfold aH
 have h1:(1:Int) > 0:=by lia
 simp only[h1,if_true,Int.ediv_one]
 split <;> lia
theorem pq {v:b9}{o:Option Int}{Q:Option Int->d7->Prop} (p:nZ v o) (h:Q o s):m6 (t8 prog w) A (Builtin.Slice.slicePartIndex v) Q E s:=by
 cases p with
 | none=>exact slicePart_none h
 | int i t=>exact slicePart_int h
theorem gi {sl:Addr}{vl vu:b9}{lo hi:Option Int}{n:Nat}{Q:Int × Int × Nat->d7->Prop} (hs:s.heap.IsSliceOf sl vl vu .none) (pl:nZ vl lo) (pu:nZ vu hi)
  (h:Q (((cZ n 0 lo:Nat):Int),1,cZ n n hi - cZ n 0 lo) s):m6 (t8 prog w) A (mv (.ref sl) (pure (n:Int))) Q E s:=by
 obtain ⟨os,hos,hcs,hds⟩:=id hs
 unfold mv Builtin.Slice.sliceFields
 refine b8 (b8 (E5 hos hds (x:=vl) rfl (b8 (E5 hos hds (x:=vu) rfl (b8 (E5 hos hds (x:=.none) rfl (d9 ?_)))))))
 refine b8 (slicePart_none ?_)
 show m6 _ _ (if ((1:Int) == 0)=true then _ else _) _ _ s
 rw[if_neg (by decide)]
 refine b8 (pq pl (b8 (pq pu (b8 (d9 ?_)))))
 show m6 _ _ (match eg lo hi 1 (n:Int) with | (lo,hi)=>pure (lo,(1:Int),aH lo hi 1)) _ _ s
 rw[yM lo hi n]
 show m6 _ _ (pure (((cZ n 0 lo:Nat):Int),(1:Int),aH ((cZ n 0 lo:Nat):Int) ((cZ n n hi:Nat):Int) 1)) _ _ s
 rw[xS]
 exact d9 h
theorem CQ (xs:Array b9) (i k:Nat):((R0 k).filterMap fun (m:Nat)=>xs[((i:Int)+(m:Int)*1).toNat]?).toArray=((xs.toList.drop i).take k).toArray:=by
 have e:(fun (m:Nat)=>xs[((i:Int)+(m:Int)*1).toNat]?)=fun m=>xs[i+m]?:=by
  funext m
  have:((i:Int)+(m:Int)*1).toNat=i+m:=by lia
  rw[this]
 rw[e]
 have:=pick_run xs i k
 rw[List.filterMap_map] at this
 have e2:((fun x=>xs[x]?) ∘ fun x=>i+x)=fun m=>xs[i+m]?:=rfl
 rw[e2] at this
 rw[this]
theorem lM {t sl:Addr}{items:Array b9}{vl vu:b9}{lo hi:Option Int}(ht:Ao s.heap t items) (hs:s.heap.IsSliceOf sl vl vu .none) (pl:nZ vl lo) (pu:nZ vu hi)
  (hw:¬ (cZ items.size 0 lo=0/\cZ items.size items.size hi=items.size))
  (h:Q (.ref s.heap.objs.size) { s with heap:=s.heap.push { cls:=.type "tuple",data:=.seq ((items.toList.drop (cZ items.size 0 lo)).take (cZ items.size items.size hi - cZ items.size 0 lo)).toArray } })
  (hsz:items.size<=i6):m6 (t8 prog w) A (kW (.ref t) (.ref sl)) Q E s:=by
 have htake:sizeOk (.seq ((items.toList.drop (cZ items.size 0 lo)).take (cZ items.size items.size hi - cZ items.size 0 lo)).toArray):=by
  show ((items.toList.drop (cZ items.size 0 lo)).take (cZ items.size items.size hi - cZ items.size 0 lo)).toArray.size<=i6
  rw[n9,y7,M0,G2]
  lia
 have hj:cZ items.size items.size hi<=items.size:=HC _ _ (i8 _) hi
 obtain ⟨os,hos,hcs,hds⟩:=id hs
 have hTs:s.TypeIs (.ref sl) "slice":=⟨os,hos,hcs⟩
 unfold kW
 try with_reducible refine P9 ?_
 first|refine b8 (d9 ?_)|skip
 refine b8 (Lo ht.typeIs (by decide) ?_)
 refine b8 (F0 (name:=U6 "__getitem__") ht.typeIs X5
  (E8 X5 ht.typeIs IR ?_ (Jt _ _)))
 show m6 _ _ (dP (.ref t) >>= _) _ _ s
 refine b8 (tupleItemsOf_ ht ?_)
 refine b8 (Er hTs ?_)
 rw[if_pos (by decide)]
 refine b8 (gi hs pl pu ?_)
 have hno:¬ ((((cZ items.size 0 lo:Nat):Int) == 0&&(1:Int) == 1&&(cZ items.size items.size hi - cZ items.size 0 lo) == items.size)=true):=by
  intro q
  rw[A6,A6] at q
  have q1:((cZ items.size 0 lo:Nat):Int)=0:=eq_of_beq q.1.1
  have q2:cZ items.size items.size hi - cZ items.size 0 lo=items.size:=eq_of_beq q.2
  exact hw ⟨by lia,by lia⟩
 show m6 _ _ (if (((cZ items.size 0 lo:Nat):Int) == 0&&(1:Int) == 1&&(cZ items.size items.size hi - cZ items.size 0 lo) == items.size)=true then _ else _) _ _ s
 rw[if_neg hno,CQ]
 first
  | exact b8 (m:=aZ _) (E4 (d9 ⟨_,rfl,d9 h⟩) htake)
  | exact b8 (m:=aZ _) (E4 (b8 (d9 (d9 ⟨_,rfl,d9 h⟩))) htake)
  | exact b8 (b8 (m:=aZ _) (E4 (d9 (d9 ⟨_,rfl,d9 h⟩)) htake))
  | exact b8 (b8 (m:=aZ _) (E4 (d9 ⟨_,rfl,d9 h⟩) htake))
end
end HT
namespace L2
open PySem PySem.Spec PyProof.Rows
noncomputable abbrev TO:=St->Hp->(Option Int->Hp->Prop)->Prop
noncomputable def PO (X:Cx) (e:Option Expr) (t:TO):Prop :=
 ∀(pins:List (Addr × Obj)) (s:d7) (σ:St) (H:Hp) (Q:Option Int->Hp->Prop),E6 X pins σ H s->t σ H Q ->
  m6 (t8 X.prog X.w) X.A (evalPart e X.env) (fun u s'=>∃o H',E6 X pins σ H' s'/\nZ u o/\Q o H') X.xe s
noncomputable def W5:TO:=fun _ H Q=>Q none H
noncomputable def bZ (t:TE):TO:=fun σ H Q=>t σ H fun x H1=>∃i,x=.int i/\Q (some i) H1
theorem yB {ns:List Int}:∀{us:List b9},M9 (ns.map V.int) us->aX us ns:=by
 induction ns with
 | nil=>intro us r;rw[yU] at r;cases r;exact .nil
 | cons n ns ih =>
  intro us r
  rw[B7] at r
  cases r with
  | cons r1 r2 =>
   obtain ⟨t,e⟩:=r1
   subst e
   exact .cons n t (ih r2)
section
variable {X:Cx}{e:Expr}{te:TE}{lo hi:Option Expr}{tl th:TO}{pos p2:Pos}
theorem W0:PO X none W5:=by
 intro pins s σ H Q I h
 rw[evalPart_none]
 exact d9 ⟨none,H,I,.none,h⟩
theorem V9 (h:PE X e te):PO X (some e) (bZ te):=by
 intro pins s σ H Q I hw
 rw[evalPart_some]
 refine X0 (h pins s σ H _ I hw) fun u s1 ⟨x,H1,I1,r1,q1⟩=>?_
 obtain ⟨i,rfl,q⟩:=q1
 obtain ⟨t,rfl⟩:=r1
 exact ⟨some i,H1,I1,.int i t,q⟩
noncomputable def LH (X:Cx) (r:V->Option Int->Option Int->Hp->VK->Prop):Prop :=
 ∀(pins:List (Addr × Obj)) (s:d7) (σ:St) (H:Hp) (x:V) (v vl vu:b9) (lo hi:Option Int) (sl:Addr) (Q:VK),E6 X pins σ H s->Q4 x v->s.heap.IsSliceOf sl vl vu .none->nZ vl lo->nZ vu hi->r x lo hi H Q ->
  ∃T id,Jq (.type T) "__getitem__"=pure (some (.builtin id))/\s.TypeIs v T/\m6 (t8 X.prog X.w) X.A (kW v (.ref sl)) (EP X pins σ Q) X.xe s
noncomputable def uR (r:V->Option Int->Option Int->Hp->VK->Prop) (te:TE) (tl th:TO):TE:=fun σ H Q=>te σ H fun x H1=>tl σ H1 fun l H2=>th σ H2 fun u H3=>r x l u H3 Q
theorem Q5 {r:V->Option Int->Option Int->Hp->VK->Prop} (hr:LH X r) (he:PE X e te) (hl:PO X lo tl) (hu:PO X hi th):PE X (.Subscript e (.Slice lo hi none p2) pos) (uR r te tl th):=by
 intro pins s σ H Q I h
 refine Jx (X0 (he pins s σ H _ I h) fun v s1 ⟨x,H1,I1,r1,q1⟩=>?_)
 refine wpAny_Slice (X0 (hl pins s1 σ H1 _ I1 q1) fun vl s2 ⟨l,H2,I2,pl,q2⟩=>X0 (hu pins s2 σ H2 _ I2 q2) fun vu s3 ⟨u,H3,I3,pu,q3⟩=>?_)
 rw[evalPart_none]
 refine d9 ?_
 have I4:E6 X pins σ H3 { s3 with heap:=s3.heap.push { cls:=.type "slice",data:=.fields #[vl,vu,.none] } }:=I3.kept (t':=s3.toks) fun b ob q=>f9 _ q
 obtain ⟨T,id,hT,ht,hg⟩:=hr pins { s3 with heap:=s3.heap.push { cls:=.type "slice",data:=.fields #[vl,vu,.none] } } σ H3 x v vl vu l u s3.heap.objs.size Q I4 r1 (Heap.IsSliceOf.new ..) pl pu q3
 show m6 (t8 X.prog X.w) X.A (BE e (.Slice lo hi none p2) v (.ref s3.heap.objs.size)) (EP X pins σ Q) X.xe { s3 with heap:=s3.heap.push { cls:=.type "slice",data:=.fields #[vl,vu,.none] } }
 exact tail_any (ops:=[.ref s3.heap.objs.size,v]) ht hT hg (by with_unfolding_all rfl)
noncomputable def kJ (xs:List V) (lo hi:Option Int):List V:=(xs.drop (HT.cZ xs.length 0 lo)).take (HT.cZ xs.length xs.length hi - HT.cZ xs.length 0 lo)
theorem jo (xs:List V) (lo hi:Option Int):(kJ xs lo hi).length<=xs.length:=by
 unfold kJ
 rw[y7,M0]
 lia
noncomputable def rSlT (K:m9):V->Option Int->Option Int->Hp->VK->Prop:=fun x lo hi H Q=>∃a xs,x=.ref a/\dH K H a xs /\
 ¬ (HT.cZ xs.length 0 lo=0/\HT.cZ xs.length xs.length hi=xs.length)/\∀p,H p=none->Q (.ref p) (n5 H p (.tup (kJ xs lo hi)))
theorem GQ:LH X (rSlT X.K):=by
 intro pins s σ H x v vl vu lo hi sl Q I rx hs pl pu h
 obtain ⟨a,xs,rfl,hx,hw,q⟩:=h
 cases rx
 obtain ⟨its,r,ht,hz⟩:=I.tuple hx
 have hlen:its.toArray.size=xs.length:=by rw[n9];exact r.length.symm
 refine ⟨"tuple",_,PyProof.Rows.slot_tuple_getitem.lookup,ht.typeIs,?_⟩
 refine HT.lM ht hs pl pu (by rw[hlen];exact hw) ?_ (by rw[hlen];exact hz)
 rw[hlen]
 refine ⟨.ref s.heap.objs.size,_,I.laid (t':=s.toks) (o:=.tup (kJ xs lo hi)) (fun b ob q=>f9 _ q) (i8 _) ?_,rfl,q _ (I.hok.fresh (i8 _))⟩
 exact ⟨n6 (jo xs lo hi) hz,_,(r.drop (HT.cZ xs.length 0 lo)).take (HT.cZ xs.length xs.length hi - HT.cZ xs.length 0 lo),fC _ _⟩
noncomputable def Ki (K:m9):R2:=fun x y H Q=>∃a b xs ys,x=.ref a/\y=.ref b/\dH K H a xs/\dH K H b ys/\xs≠[]/\xs.length+ys.length<=i6 /\
 (ys=[]->Q (.ref a) H)/\(ys≠[]->∀p,H p=none->Q (.ref p) (n5 H p (.tup (xs++ys))))
theorem M9.nil_iff {xs:List V}{us:List b9} (r:M9 xs us):us=[] ↔ xs=[]:=by
 cases r with
 | nil=>simp
 | cons _ _=>simp
theorem Fe:jC X (W8 .Add) (Ki X.K):=by
 intro pins s σ H x y v u Q I rx ry h
 obtain ⟨a,b,xs,ys,rfl,rfl,ha,hb,hx,hz,q1,q2⟩:=h
 cases rx
 cases ry
 obtain ⟨its,r1,p1,_⟩:=I.tuple ha
 obtain ⟨its2,r2,p2,_⟩:=I.tuple hb
 refine HT.Fz p1 p2 (fun z=>hx (r1.nil_iff.mp z)) (fun z=>⟨.ref a,H,I,rfl,q1 (r2.nil_iff.mp z)⟩) (fun z=>?_) (by rw[<- r1.length,<- r2.length];exact hz)
 refine ⟨.ref s.heap.objs.size,_,I.laid (t':=s.toks) (o:=.tup (xs++ys)) (fun b ob q=>f9 _ q) (i8 _) ?_,rfl,q2 (fun w=>z (r2.nil_iff.mpr w)) _ (I.hok.fresh (i8 _))⟩
 exact ⟨by rw[v9];exact hz,_,r1.append r2,fC _ _⟩
end
noncomputable def Fp (n:Nat) (i:Int):Option Nat:=if 0<=i then (if i<n then some i.toNat else none) else if -(n:Int)<=i then some (i+n).toNat else none
noncomputable def FD {α:Type} (xs:List α) (i:Int):Option α:=(Fp xs.length i).bind fun j=>xs[j]?
theorem zH {n:Nat}{i:Int}{j:Nat} (h:Fp n i=some j):seqIndex? i n=some j/\j<n/\-(n:Int)<=i/\i<n:=by
 unfold Fp at h
 by_cases h0:0<=i
 ·rw[if_pos h0] at h
  by_cases h1:i<n
  ·rw[if_pos h1] at h
   have e:i.toNat=j:=E7 h
   exact ⟨by rw[Gr h0 h1,e],by lia,by lia,h1⟩
  ·rw[if_neg h1] at h;cases h
 ·rw[if_neg h0] at h
  by_cases h1:-(n:Int)<=i
  ·rw[if_pos h1] at h
   have e:(i+n).toNat=j:=E7 h
   exact ⟨by rw[Et (by lia) h1,e],by lia,h1,by lia⟩
  ·rw[if_neg h1] at h;cases h
theorem zZ {α:Type}{xs:List α}{i:Int}{v:α} (h:FD xs i=some v):∃j,seqIndex? i xs.length=some j/\xs[j]?=some v/\j<xs.length/\-(xs.length:Int)<=i/\i<xs.length:=by
 unfold FD at h
 cases e:Fp xs.length i with
 | none=>rw[e] at h;cases h
 | some j =>
  rw[e] at h
  obtain ⟨h1,h2,h3,h4⟩:=zH e
  exact ⟨j,h1,h,h2,h3,h4⟩
theorem E3 {α:Type}{xs:List α}{j:Nat}{v:α} (h:xs[j]?=some v):FD xs (j:Int)=some v:=by
 have hj:j<xs.length:=(List.getElem?_eq_some_iff.mp h).1
 have e:Fp xs.length (j:Int)=some j:=by
  unfold Fp
  rw[if_pos (by lia),if_pos (by lia)];simp
 unfold FD;rw[e];exact h
noncomputable def Ab (b:Expr):Prop:=∀o i,wR b false o i=operate [o,i] (kW o i)
noncomputable def Lj (X:Cx) (r:R2):Prop :=
 ∀(value slice:Expr) (pins:List (Addr × Obj)) (s:d7) (σ:St) (H:Hp) (x y:V) (v u:b9) (Q:VK),E6 X pins σ H s->Q4 x v->Q4 y u->r x y H Q ->
  wR slice false v u=operate [v,u] (kW v u)->m6 (t8 X.prog X.w) X.A (BE value slice v u) (EP X pins σ Q) X.xe s
noncomputable def MtR (X:Cx) (id:String) (r:V->List V->Hp->VK->Prop):Prop :=
 ∀(pins:List (Addr × Obj)) (s:d7) (σ:St) (H:Hp) (x:V) (xs:List V) (v:b9) (us:List b9) (Q:VK),E6 X pins σ H s->Q4 x v->M9 xs us->r x xs H Q ->
  m6 (t8 X.prog X.w) X.A (call (.builtin id) (v::us)) (EP X pins σ Q) X.xe s
section
variable {X:Cx}{a b:Expr}{ta tb:TE}{pos:Pos}
theorem G4 {r:R2} (hr:Lj X r) (ha:PE X a ta) (hb:PE X b tb) (hs:Ab b):PE X (.Subscript a b pos) (iP r ta tb):=by
 intro pins s σ H Q I h
 exact Jx (Iu ha hb I h fun v u s2 x y H2 I2 rx ry q=>hr a b pins s2 σ H2 x y v u Q I2 rx ry q (hs _ _))
noncomputable def ER (K:m9):R2:=fun x y H Q=>∃p xs i v,x=.ref p/\y=.int i/\eV K H p xs/\FD xs i=some v/\Q v H
noncomputable def Kg (K:m9):R2:=fun x y H Q=>∃p xs i v,x=.ref p/\y=.int i/\dH K H p xs/\FD xs i=some v/\Q v H
theorem R8:Lj X (ER X.K):=by
 intro value slice pins s σ H x y v u Q I rx ry h hs
 obtain ⟨p,xs,i,z,rfl,rfl,hq,he,q⟩:=h
 cases rx
 obtain ⟨t,rfl⟩:=ry
 obtain ⟨its,r,pl,hz⟩:=I.list hq
 obtain ⟨j,h1,h2,h3,h4,h5⟩:=zZ he
 obtain ⟨w,ew,rw'⟩:=r.get h2
 have hl:=r.length
 have hn:=ui
 have fin:EP X pins σ Q w s:=⟨z,H,I,rw',q⟩
 by_cases h0:0<=i
 ·have hj:i.toNat=j:=by
   rw[Gr h0 h5] at h1
   exact E7 h1
  exact item_listR pl.isList h0 (by lia) (by rw[hj];simpa using ew) fin hs
 ·have hj:(i+(its.toArray.size:Int)).toNat=j:=by
   rw[Et (by lia) h4] at h1
   rw[n9,<- hl]
   exact E7 h1
  exact Es (x:=w) pl.isList.typeIs slot_list_getitem.lookup
   (wpAny_getItem_list_neg (Q:=fun r s'=>r=w/\EP X pins σ Q r s') pl.isList (by lia) (by rw[n9] <;> lia) (by lia) (by rw[hj];simpa using ew) ⟨rfl,fin⟩) hs
theorem L7:Lj X (Kg X.K):=by
 intro value slice pins s σ H x y v u Q I rx ry h hs
 obtain ⟨p,xs,i,z,rfl,rfl,hq,he,q⟩:=h
 cases rx
 obtain ⟨t,rfl⟩:=ry
 obtain ⟨its,r,pl,hz⟩:=I.tuple hq
 obtain ⟨j,h1,h2,h3,h4,h5⟩:=zZ he
 obtain ⟨w,ew,rw'⟩:=r.get h2
 have hl:=r.length
 have hn:=ui
 have fin:EP X pins σ Q w s:=⟨z,H,I,rw',q⟩
 exact Es (x:=w) pl.typeIs slot_tuple_getitem.lookup
  (getItem_tuple (j:=j) (Q:=fun r s'=>r=w/\EP X pins σ Q r s') pl (by lia) (by lia) (by rw[n9,<- hl];exact h1) (by simpa using ew) ⟨rfl,fin⟩) hs
theorem yp (its:List b9) (n j:Nat) (u:b9):bt (·.setIfInBounds j u) { cls:=.type "list",data:=.seq its.toArray n }={ cls:=.type "list",data:=.seq (its.set j u).toArray n }:=by
 simp[bt]
theorem E6.lst {pins:List (Addr × Obj)}{σ:St}{H:Hp}{s:d7}{p:Addr}{xs:List V} (I:E6 X pins σ H s) (h:H p=some (.lst xs)):
  ∃(its:List b9) (n:Nat),M9 xs its/\s.heap.get? p=some { cls:=.type "list",data:=.seq its.toArray n }/\xs.length<=i6:=by
 obtain ⟨z,its,n,r,e⟩:=I.hok p _ h
 exact ⟨its,n,r,e,z⟩
theorem E6.lstUpd {pins:List (Addr × Obj)}{σ:St}{H:Hp}{s:d7}{p:Addr}{xs ys:List V}{its its':List b9}{n n':Nat}{f:Obj->Obj} (I:E6 X pins σ H s) (h:H p=some (.lst xs))
  (ho:s.heap.get? p=some { cls:=.type "list",data:=.seq its.toArray n }) (hf:f { cls:=.type "list",data:=.seq its.toArray n }={ cls:=.type "list",data:=.seq its'.toArray n' }) (r:M9 ys its') (hz:ys.length<=i6) (t:Nat):
  E6 X pins σ (n5 H p (.lst ys)) { s with heap:=s.heap.update p f,toks:=t }:=by
 have e:(s.heap.update p f).get? p=some { cls:=.type "list",data:=.seq its'.toArray n' }:=by
  rw[X6 f ho (by rw[hf] <;> rfl),hf]
 refine I.write (x:=p) (e:=p) (by rw[h];trivial) (.inl rfl) (fun b u hb q=>(O5 _ _ (J9 hb)).trans q) ⟨_,e⟩ ?_
 exact ⟨hz,its',n',r,e⟩
noncomputable def Kb:V->V->V->Hp->(Hp->Prop)->Prop:=fun o i v H Q=>∃p xs k j,o=.ref p/\i=.int k/\H p=some (.lst xs)/\Fp xs.length k=some j/\Q (n5 H p (.lst (xs.set j v)))
theorem lr:Lc X Kb:=by
 intro pins s σ H o i v ov iv u Q I ro ri rv h
 obtain ⟨p,xs,k,j,rfl,rfl,hp,hj,q⟩:=h
 cases ro
 obtain ⟨t,rfl⟩:=ri
 obtain ⟨its,n,r,ho,hz⟩:=I.lst hp
 obtain ⟨h1,h2,h3,h4⟩:=zH hj
 have hl:=r.length
 have hn:=ui
 have I':E6 X pins σ (n5 H p (.lst (xs.set j v))) { s with heap:=s.heap.update p (bt (·.setIfInBounds j u)) } :=
  I.lstUpd hp ho (yp its n j u) (r.set rv j) (by rw[bV];exact hz) s.toks
 by_cases h0:0<=k
 ·have hk:k.toNat=j:=by
   rw[Gr h0 h4] at h1
   exact E7 h1
  exact W.ki_setAt ho h0 (by lia) (by rw[n9,<- hl];exact h4) (by rw[hk];exact ⟨_,I',q⟩)
 ·have hk:(k+(its.toArray.size:Int)).toNat=j:=by
   rw[Et (by lia) h3] at h1
   rw[n9,<- hl]
   exact E7 h1
  exact W.ki_setBack ho (by lia) (by rw[n9,<- hl];exact h3) (by lia) (by rw[hk];exact ⟨_,I',q⟩)
theorem D8:cx X (.builtin "len") (fun xs H Q=>∃p ys,xs=[.ref p]/\(eV X.K H p ys ∨ dH X.K H p ys)/\Q (.int ys.length) H):=by
 intro pins s σ H xs us Q I r h
 obtain ⟨p,ys,rfl,hq,q⟩:=h
 obtain ⟨u,rfl,rx⟩:=lg r
 cases rx
 have hn:=ui
 rcases hq with hq|hq
 ·obtain ⟨its,r',pl,hz⟩:=I.list hq
  have hlen:=r'.length
  exact Calls.call_len_list pl.isList (by simp only[n9] <;> lia) ⟨.int ys.length,H,I.tok _,⟨s.toks+1,by rw[n9,hlen]⟩,q⟩
 ·obtain ⟨its,r',pl,hz⟩:=I.tuple hq
  have hlen:=r'.length
  exact len_tuple pl (by simp only[n9] <;> lia) ⟨.int ys.length,H,I.tok _,⟨s.toks+1,by rw[n9,hlen]⟩,q⟩
theorem eF:cx X (.type "list") (fun xs H Q=>∃p ys,xs=[.ref p]/\(eV X.K H p ys ∨ dH X.K H p ys)/\∀l,H l=none->Q (.ref l) (n5 H l (.lst ys))):=by
 intro pins s σ H xs us Q I r h
 obtain ⟨p,ys,rfl,hq,q⟩:=h
 obtain ⟨u,rfl,rx⟩:=lg r
 cases rx
 have fin:∀(its:List b9),M9 ys its->ys.length<=i6->∀(h':Heap) (c':Nat),(∀b o',s.heap.get? b=some o'->h'.get? b=some o') ->
   h'.get? s.heap.objs.size=some { cls:=.type "list",dict:=none,data:=.seq its.toArray c',slots:=#[] }->EP X pins σ Q (.ref s.heap.objs.size) { s with heap:=h' }:=fun its r' hz h' c' kp e =>
  ⟨.ref s.heap.objs.size,_,I.laid (t':=s.toks) kp (i8 _) (show P5 X.prog X.w _ h' _ (.lst ys) from ⟨hz,its,c',r',e⟩),rfl,q _ (I.hok.fresh (i8 _))⟩
 rcases hq with hq|hq
 ·obtain ⟨its,r',pl,hz⟩:=I.list hq
  have hlen:=r'.length
  obtain ⟨o,ho,hc,n,hd⟩:=pl.isList
  exact call_list_seq p (.inl rfl) ho hc hd (fun h' c' kp e=>fin its r' hz h' c' kp e) (by simp only[n9] <;> lia)
 ·obtain ⟨its,r',pl,hz⟩:=I.tuple hq
  have hlen:=r'.length
  obtain ⟨o,ho,hc,n,hd⟩:=pl
  exact call_list_seq p (.inr rfl) ho hc hd (fun h' c' kp e=>fin its r' hz h' c' kp e) (by simp only[n9] <;> lia)
theorem L5:cx X (.type "tuple") (fun xs H Q=>∃p ys,xs=[.ref p]/\((eV X.K H p ys/\∀l,H l=none->Q (.ref l) (n5 H l (.tup ys))) ∨ (dH X.K H p ys/\Q (.ref p) H))):=by
 intro pins s σ H xs us Q I r h
 obtain ⟨p,ys,rfl,h⟩:=h
 obtain ⟨u,rfl,rx⟩:=lg r
 cases rx
 rcases h with ⟨hq,q⟩|⟨hq,q⟩
 ·obtain ⟨its,r',pl,hz⟩:=I.list hq
  have hlen:=r'.length
  refine call_tuple_list pl.isList (fun h' kp=>?_) (by simp only[n9] <;> lia)
  have I1:E6 X pins σ H { s with heap:=h' }:=I.kept (t':=s.toks) kp
  have I2:E6 X pins σ (n5 H h'.objs.size (.tup ys)) { s with heap:=h'.push { cls:=.type "tuple",data:=.seq its.toArray } } :=
   I1.laid (t':=s.toks) (fun b o e=>f9 _ e) (i8 _) (show P5 X.prog X.w _ _ _ (.tup ys) from ⟨hz,its,r',fC _ _⟩)
  exact ⟨.ref h'.objs.size,_,I2,rfl,q _ (I1.hok.fresh (i8 _))⟩
 ·obtain ⟨its,r',pl,hz⟩:=I.tuple hq
  exact call_tuple_same pl ⟨.ref p,H,I,rfl,q⟩
noncomputable def tyV (K:m9) (T:String) (x:V) (H:Hp):Prop:=match x with
 | .str _=>T="str"
 | .int _=>T="int"
 | .ref p=>(T="list"/\∃xs,eV K H p xs) ∨ (T="tuple"/\∃o,K.lookup p=some o/\o.cls=.type "tuple"/\o.dict=none) ∨
   (T="dict"/\((∃kvs,H p=some (.dK kvs)) ∨ ∃kvs,H p=some (.dT kvs))) ∨ (T="set"/\∃S n,H p=some (.set S n))
 | _=>False
theorem GB {pins:List (Addr × Obj)}{σ:St}{H:Hp}{s:d7}{T:String}{x:V}{v:b9} (I:E6 X pins σ H s) (r:Q4 x v) (ty:tyV X.K T x H):
  s.TypeIs v T/\∀a,v=.ref a->∃ob,s.heap.get? a=some ob/\ob.dict=none:=by
 cases x with
 | str z =>
  obtain ⟨t,rfl⟩:=r
  cases (show T="str" from ty)
  exact ⟨typeIs_str s z t,fun _ e=>nomatch e⟩
 | int i =>
  obtain ⟨t,rfl⟩:=r
  cases (show T="int" from ty)
  exact ⟨iK s i t,fun _ e=>nomatch e⟩
 | ref p =>
  cases r
  rcases ty with ⟨rfl,xs,hq⟩|⟨rfl,o,hk,hc,hd⟩|⟨rfl,hk⟩|⟨rfl,S,n,hk⟩
  ·obtain ⟨its,_,pl,_⟩:=I.list hq
   refine ⟨pl.isList.typeIs,fun a e=>?_⟩
   cases e
   obtain ⟨o,n,e,c,hd,_⟩:=pl
   exact ⟨o,e,hd⟩
  ·refine ⟨⟨o,I.kIn p o hk,hc⟩,fun a e=>?_⟩
   cases e
   exact ⟨o,I.kIn _ o hk,hd⟩
  ·have z:∃o,s.heap.get? p=some o/\o.ExactDict:=by
    rcases hk with ⟨kvs,hk⟩|⟨kvs,hk⟩
    ·obtain ⟨_,_,_,_,o,_,_,e,ex,_⟩:=I.hok p _ hk
     exact ⟨o,e,ex⟩
    ·obtain ⟨_,_,_,_,o,_,_,e,ex,_⟩:=I.hok p _ hk
     exact ⟨o,e,ex⟩
   obtain ⟨o,e,ex⟩:=z
   refine ⟨⟨o,e,ex.1⟩,fun a e2=>?_⟩
   cases e2
   exact ⟨o,e,ex.2.1⟩
  ·obtain ⟨o,_,_,_,e,ex,_⟩:=I.hok p _ hk
   refine ⟨⟨o,e,ex.1⟩,fun a e2=>?_⟩
   cases e2
   exact ⟨o,e,ex.2.1⟩
 | _=>exact G8 ty
noncomputable def tBM (K:m9) (T:String) (r:V->List V->Hp->VK->Prop) (to:TE) (t:TA):TE:=fun σ H Q=>to σ H fun x H1=>tyV K T x H1/\t σ H1 fun xs H2=>r x xs H2 Q
variable {o e:Expr}{es:List Expr}{to:TE}{t:TA}{name:Str}{apos cpos:Pos}{T id:String}{r:V->List V->Hp->VK->Prop}
theorem CW (pa:PlainAttrs T) (slot:Slot T name id) (hty:typeOf (.builtin id)=pure (.type "method_descriptor")) (hm:MtR X id r) (ho:PE X o to) (ha:PA X (e::es) t)
  (hbase:qF o name X.env (eval o X.env)=eval o X.env:=by rfl)
  (hfew:((aU cpos (C4 (e::es) X.env)).all (fun x=>!x.1)&&(backToKw cpos (Gu [] X.env)).all (fun x=>x.1.isSome)
   && decide ((e::es).length+([]:List oo).length+(if ([]:List oo).isEmpty then 0 else 1)<30))=true:=by rfl)
  (hline:(apos.endLine == cpos.line)=true:=by rfl) (hs:C4 (e::es) X.env=(false,eval e X.env)::C4 es X.env:=by rfl) (hplain:(aU cpos (C4 es X.env)).any (·.1)=false:=by rfl):
  PE X (.Call (.Attribute o name apos) (e::es) [] cpos) (tBM X.K T r to t):=by
 intro pins s σ H Q I h
 refine wpAny_Call_method_late hbase hfew hline rfl (X0 (ho pins s σ H _ I h) fun v s1 ⟨x,H1,I1,r1,ty,q1⟩=>?_)
 obtain ⟨h1,h2⟩:=GB I1 r1 ty
 refine ⟨T,id,pa,slot,hty,h1,h2,?_⟩
 have hA:=ha cpos pins s1 σ H1 _ I1 q1
 rw[hs] at hA ⊢
 refine iW (by show (false || (aU cpos (C4 es X.env)).any (·.1))=false;rw[hplain] <;> rfl) (jZ ?_)
 exact X0 hA fun us s2 ⟨vs,H2,I2,r2,q2⟩=>hm pins s2 σ H2 x vs v us Q I2 r1 r2 q2
end
noncomputable def MtM (X:Cx) (id:String) (r:V->List V->Hp->VK->Prop):Prop :=
 ∀(pins:List (Addr × Obj)) (s:d7) (σ:St) (H:Hp) (x:V) (xs:List V) (v:b9) (us:List b9) (Q:VK),E6 X pins σ H s->Q4 x v->M9 xs us->r x xs H Q ->
  m6 (t8 X.prog X.w) X.A (call (.builtin id) (v::us)) (EP X pins σ Q) X.xe s
theorem M9.one:∀{x:V}{us:List b9},M9 [x] us->∃u,us=[u]/\Q4 x u
 | _,_,.cons r .nil=>⟨_,rfl,r⟩
section
variable {X:Cx}{pins:List (Addr × Obj)}{σ:St}{H:Hp}{s:d7}{l b:Addr}{xs ys zs:List V}
theorem E6.lset {its its':List b9}{n:Nat}{f:Array b9->Array b9}{t':Nat} (I:E6 X pins σ H s) (hH:H l=some (.lst xs))
  (e:s.heap.get? l=some { cls:=.type "list",data:=.seq its.toArray n }) (hf:f its.toArray=its'.toArray) (hv:M9 ys its') (hz:ys.length<=i6):
  E6 X pins σ (n5 H l (.lst ys)) { s with heap:=s.heap.update l (bt f),toks:=t' }:=by
 have q:=PySem.IsL.update e f
 rw[hf] at q
 refine I.write (x:=l) (e:=l) (by rw[hH];exact trivial) (.inl rfl) (fun b' u hb hu=>(O5 s.heap (bt f) (J9 hb)).trans hu) ⟨_,q⟩ ?_
 exact ⟨hz,its',_,hv,q⟩
theorem E6.lnew {its:List b9}{t':Nat} (I:E6 X pins σ H s) (hv:M9 ys its) (hz:ys.length<=i6):
  E6 X pins σ (n5 H s.heap.objs.size (.lst ys)) { s with heap:=s.heap.push { cls:=.type "list",data:=.seq its.toArray },toks:=t' } :=
 I.laid (fun _ _ q=>f9 _ q) (i8 _) ⟨hz,its,0,hv,t7 _ rfl⟩
theorem E6.fresh (I:E6 X pins σ H s):H s.heap.objs.size=none:=I.hok.fresh (i8 _)
theorem E6.lstM (I:E6 X pins σ H s) (hH:H l=some (.lst xs)):xs.length<=i6/\∃(its:List b9) (n:Nat),M9 xs its/\xs.length=its.length/\s.heap.get? l=some { cls:=.type "list",data:=.seq its.toArray n }:=by
 obtain ⟨z,its,n,r,e⟩:=I.hok l _ hH
 exact ⟨z,its,n,r,r.length,e⟩
end
section
variable {X:Cx}
noncomputable def ES:V->List V->Hp->VK->Prop:=fun x vs H Q=>∃l xs y,x=.ref l/\vs=[y]/\H l=some (.lst xs)/\xs.length<i6/\Q .non (n5 H l (.lst (xs++[y])))
theorem rS:MtM X "list.append" ES:=by
 intro pins s σ H x vs v us Q I rx rv h
 obtain ⟨l,xs,y,rfl,rfl,hH,hz,q⟩:=h
 cases rx
 obtain ⟨u,rfl,ru⟩:=rv.one
 obtain ⟨z,its,n,r,hl,e⟩:=I.lstM hH
 refine dq F.slot_list_append ⟨_,e,rfl⟩ F.entry_list_append (F.args_list_append_2 _ _) (PySem.list_append l its.toArray n u (by rw[n9];lia)) ⟨e,?_⟩
 refine ⟨.non,_,I.lset (its':=its++[u]) hH e (by simp) (r.append (.cons ru .nil)) ?_,rfl,q⟩
 rw[v9,jP]
 lia
noncomputable def rCat:R2:=fun x y H Q=>∃l b xs zs,x=.ref l/\y=.ref b/\H l=some (.lst xs)/\H b=some (.lst zs)/\xs.length+zs.length<=i6/\∀p,H p=none->Q (.ref p) (n5 H p (.lst (xs++zs)))
theorem kF:jC X (W8 .Add) rCat:=by
 intro pins s σ H x y v u Q I rx ry h
 obtain ⟨l,b,xs,zs,rfl,rfl,hH,hB,hz,q⟩:=h
 cases rx
 cases ry
 obtain ⟨z,its,n,r,hl,e⟩:=I.lstM hH
 obtain ⟨z2,its2,n2,r2,hl2,e2⟩:=I.lstM hB
 refine PySem.P.add_list e e2 ?_ (by rw[n9,n9];lia)
 have ea:its.toArray++its2.toArray=(its++its2).toArray:=by simp
 rw[ea]
 exact ⟨.ref _,_,I.lnew (t':=s.toks) (r.append r2) (by rw[v9];lia),rfl,q _ I.fresh⟩
end
section
variable {prog:j6}{w:r9}{A:A5}{E:b9->d7->Prop}{s:d7}
set_option maxRecDepth 100000 in
end
section
variable {X:Cx}
end
end L2
namespace Att
open PySem PySem.W PySem.Calls PyProof.Rows
theorem oi {P:Params}{h:Heap}:∀(ns:List Int) (vs:List b9),WellAll P h vs (ns.map WData.int)->aX vs ns:=by
 intro ns
 induction ns with
 | nil =>
  intro vs w
  rw[yU] at w
  cases w
  exact .nil
 | cons n ns ih =>
  intro vs w
  rw[B7] at w
  cases w with
  | cons a b =>
   cases a
   exact .cons _ _ (ih _ b)
theorem Ay {l:OpenLaw}{n:Nat} (hn:l.most=some n) {P:Params}{h:Heap}{args:List WData}{vals:List b9}
  (hpre:l.row.toRowW.claim.pre args=true) (hwl:WellAll P h vals args):
  ∃a vs ns,vals=[y6 a]/\args=[WData.list (ns.map WData.int)]/\h.get? a=some { cls:=.type "list",data:=.seq vs.toArray }/\aX vs ns/\ns.length<=n:=by
 have hsh:WShape.hasAll [] args [.list .int]=true:=(pre_splitW hpre).1
 have hc:l.pre.holds [] { args:=args }=true:=(pre_splitW hpre).2
 obtain ⟨d,r,rfl,h1,h2⟩:=hasAllW_cons hsh
 obtain rfl:=hasAllW_nil h2
 obtain ⟨xs,rfl,h3⟩:=hasW_list h1
 obtain ⟨ns,rfl⟩:=items_int h3
 have hlen:ns.length<=n:=by
  unfold OpenLaw.pre at hc
  have h4:(WTm.not (.lt (.lit (.int (n:Int))) (.len (.arg 0)))).holds [] { args:=[.list (ns.map .int)] }=true:=by
   have h4:=(holds_andW hc).1
   rw[hn] at h4
   exact h4
  have h5:=condW_of h4 (w_not (w_lt w_lit (w_len_list (w_arg rfl))))
  rw[d6] at h5
  refine Nat.le_of_not_lt fun q=>?_
  have q':(n:Int)<((ns.length:Nat):Int):=by lia
  first
   | (rw[decide_eq_true q'] at h5;exact absurd h5 (by decide))
   | (simp at h5;lia)
 cases hwl with
 | cons w1 w2 =>
  cases w2
  cases w1 with
  | list ho hall=>exact ⟨_,_,ns,rfl,rfl,ho,oi ns _ hall,hlen⟩
theorem AD (l:OpenLaw) (args:List WData):l.row.toRowW.claim.post args (.bool true) args=true :=
 postW_of (r:=l.row.toRowW) (X:=(true == true))
  (show Lw [] (.bool true) .bool=true by first|rfl|decide|simp[Lw,WShape.arms,WShape.armsAll])
  (show (WTm.eq .res (.lit (.bool true))).value [] { args:=args,res:=some (.bool true),after:=args }=some (.bool (true == true)) from w_eq_bool (w_res rfl) w_lit) rfl
theorem wJ {l:OpenLaw}{n:Nat}{q:j6}{loose:List Str}{XP:(Str->Option b9)->Heap->Prop}{YP:r9->Heap->Prop}{d:DefRec}
  (hn:l.most=some n) (hdf:d.params.defaults=[])
  (call:∀(w:r9) (s₀ s₁:d7) (mg mb:Str->Option b9) (fa:Addr) (o:Obj) (pm cd doc:b9) (a:Addr) (vs:List b9) (ns:List Int),
   Ground q loose [] XP w s₀ mg mb s₁.heap->YP w s₁.heap ->
   s₁.heap.get? fa=some o->o.data=.func (docDef d.name d.params d.body d.scope pm cd doc)->s₁.heap.CodeRec cd d.name->mg d.name=some (.ref fa) ->
   s₁.heap.get? a=some { cls:=.type "list",data:=.seq vs.toArray }->aX vs ns->ns.length<=n->s₁.gens=#[] ->
   kX (t8 l.prog w) sM (.call (.ref fa) ⟨[.ref a],[]⟩) (fun r s'=>r=.ok (.ret (.bool true))/\OldK s₁.heap s'.heap/\s'.os=s₁.os/\jv s'.gens) s₁):
  WalkO q loose XP YP l.row.toRowW d [] (fun f vs=>BG f vs):=by
 intro w s₀ s₁ mg mb G Y fa o pm cd doc dV kV ho hd hcd hD hmg hg args vals as hpre hlay hrd hwl hlo
 obtain rfl:dV=.none:=Dflts.none hD hdf
 obtain rfl:kV=.none:=Dflts.noKw hD
 obtain ⟨a,vs,ns,rfl,rfl,hobj,hints,hlen⟩:=Ay hn hpre hwl
 refine enter_call (gM (call w s₀ s₁ mg mb fa o pm cd doc a vs ns G Y ho (fd_plain hd) hcd hmg hobj hints hlen hg) fun r s' hq=>?_)
 obtain ⟨rfl,h2,h3,h4⟩:=hq
 exact ⟨.inl ⟨.bool true,.bool true,[],rfl,fun _=>rfl,.bool true,AD l _,fun _=>⟨bH,fun _ hm=>(nomatch hm)⟩⟩,h2,h3,h4⟩
section
variable {prog:j6}{w:r9}{A:A5}{E:b9->d7->Prop}{s:d7}{K:Frag}
end
end Att
namespace L2
open PySem PySem.Spec PyProof.Rows
theorem rE:∀{vs:List b9}{ns:List Int},aX vs ns->M9 (ns.map V.int) vs
 | _,_,.nil=>.nil
 | _,_,.cons n t h=>.cons ⟨t,rfl⟩ (rE h)
noncomputable abbrev KOf {K:m9}{h:Heap} (_:K.In h):m9:=K
noncomputable def eD (s:Stmt):dN:=match s with
 | .FunctionDef _ a _ _ _ _ _ _ _ _=>a
 | _=>{ posonlyargs:=[],args:=[],vararg:=none,kwonlyargs:=[],kw_defaults:=[],kwarg:=none,defaults:=[] }
noncomputable def bf (s:Stmt):List Stmt:=match s with
 | .FunctionDef _ _ b _ _ _ _ _ _ _=>b
 | _=>[]
noncomputable def A1 (s:Stmt):Q0:=match s with
 | .FunctionDef _ _ _ _ _ _ sc _ _ _=>sc
 | _=>{ kind:=.function,names:=[],isGenerator:=false,isCoroutine:=false }
noncomputable abbrev dI:yQ:=fun _ _ _ _ _ _=>False
noncomputable abbrev E0:XK:=fun _ _ _=>False
variable {X:Cx}
theorem Ko :kK dI X E0:=fun _ _ _ _ _ _ _ h=>h.elim
structure bT (K:m9) (x qual:Str) (st:Stmt) (f:Addr) (fd:D6):Prop where
 ex:∃(oc:b9) (od:Option Addr) (kV doc pm:b9) (an:Option Addr) (cdv ct:b9) (osl:Array (Option b9)),
  fd=gN x qual (eD st) (bf st) (A1 st) .none kV doc pm an cdv ct/\K.lookup f=some ⟨oc,od,.func fd,osl⟩/\jF K cdv qual=true
 kp:cD K (.ref f)=true
section
variable {P:j6}{w:r9}{K:m9}{mg:Str->Option b9}{base:Heap}
variable {x qual:Str}{f:Addr}
theorem bT.ok {st:Stmt}{fd:D6}{N ps:List Str}{k:Nat}{sp:Sp} (F:bT K x qual st f fd) (S:D9 N ps (A1 st)) (len:∀vs H Q E,sp vs H Q E->vs.length=ps.length)
  (hbody:∀(cdv:b9) (A:A5) (outer:List Env) (s:d7) (H:Hp) (vs:List V) (Q:VK) (E:XK),cE k (A.deeper (ae qual (A1 st) s.heap.objs.size f cdv))->sp vs H Q E ->
   ∃t,qI (gC dI P w K mg base N qual (A1 st) f cdv A outer s H E).nox (bf st) t/\t { nx:=fun _ H'=>Q .non H',rt:=Q } (start N vs) H):N0 P w K mg base dI (k+1) f fd ps sp:=by
 obtain ⟨oc,od,kV,doc,pm,an,cdv,ct,osl,rfl,lk,hcd⟩:=F.ex
 refine DJ lk hcd S len fun A outer s H vs Q E hr hsp=>?_
 obtain ⟨t,h,q⟩:=hbody cdv A outer s H vs Q E hr hsp
 exact ⟨t,h.nox,q⟩
theorem bT.binds {st:Stmt}{fd:D6}{ps:List Str} (F:bT K x qual st f fd)
  (h:∀(kV doc pm:b9) (an:Option Addr) (cdv ct:b9) (us:List b9),us.length=ps.length->Ai (gN x qual (eD st) (bf st) (A1 st) .none kV doc pm an cdv ct) ⟨us,[]⟩=pure (ps.zip us)):jV K fd ps []:=by
 obtain ⟨oc,od,kV,doc,pm,an,cdv,ct,osl,rfl,lk,hcd⟩:=F.ex
 exact .all (h kV doc pm an cdv ct)
theorem yC {st:Stmt}{oc:b9}{od an:Option Addr}{osl:Array (Option b9)}{kV doc pm cdv ct:b9} (l:K.lookup f=some ⟨oc,od,.func (gN x qual (eD st) (bf st) (A1 st) .none kV doc pm an cdv ct),osl⟩)
  (c:jF K cdv qual=true) (k:cD K (.ref f)=true):bT K x qual st f (gN x qual (eD st) (bf st) (A1 st) .none kV doc pm an cdv ct):=⟨⟨oc,od,kV,doc,pm,an,cdv,ct,osl,rfl,l,c⟩,k⟩
end
variable {n:Nat}
theorem rJ (h:n<=1000):n<i6:=F2 h (by decide)
section
variable {X:Cx}
theorem pv (i:Nat) {x:Str}{pos:Pos} (hN:X.N[i]?=some x:=by rfl) (hv:La X.env.scope x:=by first|exact A2 rfl|exact gH (A2 rfl)|exact gH (gH rfl)) (hd:(x == ("__debug__":Str))=false:=by decide)
  (hcd:(x == ("__classdict__":Str))=false:=by decide):PE X (.Name x pos) (T6 i):=xX hN hv hd hcd
end
variable {B:Prop}
theorem W3 {A:Prop} (h:B):if false=true then A else B:=by
 rw[if_neg A0]
 exact h
theorem V0 {A:Prop} (h:A):if true=true then A else B:=by
 rw[if_pos rfl]
 exact h
theorem yA {c A:Prop} [Decidable c] (h1:c->A) (h2:¬ c->B):if c then A else B:=by
 by_cases h:c
 ·rw[if_pos h]
  exact h1 h
 ·rw[if_neg h]
  exact h2 h
theorem KL {c A:Prop} [Decidable c] (hc:c) (h:B):if (!decide c)=true then A else B:=by
 rw[decide_eq_true hc]
 exact W3 h
noncomputable def i7 (H H':Hp):Prop:=∀b o,H b=some o->H' b=some o
theorem i7.refl (H:Hp):i7 H H:=fun _ _ h=>h
variable {H:Hp}
theorem i7.trans {H1 H2:Hp} (a:i7 H H1) (b:i7 H1 H2):i7 H H2:=fun c o h=>b c o (a c o h)
variable {H':Hp}
theorem i7.free (e:i7 H H') {l:Addr} (h:H' l=JA):H l=JA:=by
 cases q:H l with
 | none=>rfl
 | some o =>
  rw[e l o q] at h
  cases h
set_option maxHeartbeats 4000000
theorem dm:∀(names:List (Str × aB)) (n:Nat) (acc:List (Str × Addr)),Q7 n names acc=Q7 n names []++acc
 | [],n,acc=>rfl
 | (x,k)::r,n,acc=>by
  unfold Q7
  split
  ·rw[dm r (n+1) ((x,n)::acc),dm r (n+1) [(x,n)],Y2]
   rfl
  ·exact dm r n acc
noncomputable def W6 (env:Env):List (Str × aB)->List (Str × Addr)->List (Str × Addr)
 | [],acc=>acc
 | (x,k)::r,acc=>if k == .free then W6 env r ((x,(env.cells.lookup x).getD 0)::acc) else W6 env r acc
theorem wC {env:Env} (f:Str × aB->List (Str × Addr)->Sem (ForInStep (List (Str × Addr))))
  (hf:∀name kind cs,f (name,kind) cs=if kind == .free then (do let a <- cellOf env name;pure (.yield ((name,a)::cs))) else pure (.yield cs)):
  ∀(names:List (Str × aB)) (acc:List (Str × Addr)),(∀x∈names,x.2=.free->∃c,env.cells.lookup x.1=some c)->forIn names acc f=pure (W6 env names acc)
 | [],acc,_=>by rw[Z9];rfl
 | (x,k)::r,acc,h=>by
  have ih:=fun acc=>wC f hf r acc fun y hy=>h y (j9 _ hy)
  rw[Y0,hf]
  unfold W6
  by_cases hk:(k == W2)=true
  ·rw[if_pos hk,if_pos hk]
   obtain ⟨c,hc⟩:=h (x,k) j8 (beq_iff_eq.mp hk)
   have hc':env.cells.lookup x=some c:=hc
   have:cellOf env x=pure c:=by unfold cellOf;rw[hc']
   rw[this,hc']
   simp only[pure_bind,Option.getD_some]
   exact ih _
  ·rw[if_neg hk,if_neg hk]
   simp only[pure_bind]
   exact ih _
variable {scope:Q0}{env:Env}
theorem fQ (h:∀x∈scope.names,x.2=.free->∃c,env.cells.lookup x.1=some c):closureFor scope env=pure (W6 env scope.names []):=by
 simp only[closureFor]
 rw[wC (env:=env) _ (fun name kind cs=>by cases hk:kind == W2 <;> simp[hk]) scope.names [] h]
 rfl
theorem gD {env:Env}:∀{names:List (Str × aB)}{acc:List (Str × Addr)}{x:Str}{c:Addr},(∀x∈names,x.2=.free->∃c,env.cells.lookup x.1=some c) ->
  (x,c)∈W6 env names acc->(x,c)∈acc ∨ env.cells.lookup x=some c
 | [],acc,x,c,_,hm=>.inl hm
 | (y,k)::r,acc,x,c,h,hm=>by
  have hr:∀x∈r,x.2=.free->∃c,env.cells.lookup x.1=some c:=fun z hz=>h z (j9 _ hz)
  unfold W6 at hm
  by_cases hk:(k == W2)=true
  ·rw[if_pos hk] at hm
   obtain ⟨d,hd⟩:=h (y,k) j8 (beq_iff_eq.mp hk)
   have hd':env.cells.lookup y=some d:=hd
   rcases gD hr hm with q|q
   ·rcases List.mem_cons.mp q with e|q
    ·cases e
     right;rw[hd'];rfl
    ·exact .inl q
   ·exact .inr q
  ·rw[if_neg hk] at hm
   exact gD hr hm
theorem ni {env:Env}:∀{names:List (Str × aB)}{acc:List (Str × Addr)}{p:Str × Addr},p∈acc->p∈W6 env names acc
 | [],_,_,h=>h
 | (y,k)::r,acc,p,h=>by
  unfold W6
  split
  ·exact ni (j9 _ h)
  ·exact ni h
theorem eS {env:Env}:∀{names:List (Str × aB)}{acc:List (Str × Addr)}{x:Str},(x,W2)∈names->∃c,(x,c)∈W6 env names acc
 | [],_,_,h=>by cases h
 | (y,k)::r,acc,x,h=>by
  unfold W6
  rcases List.mem_cons.mp h with e|h
  ·cases e
   rw[if_pos (by rfl)]
   exact ⟨_,ni j8⟩
  ·split
   ·exact eS h
   ·exact eS h
theorem bu {α:Type}:∀{l:List (Str × α)}{x:Str}{c:α},(x,c)∈l->∃d,l.lookup x=some d
 | (k,v)::r,x,c,h=>by
  rw[L8]
  cases hb:x == k with
  | true=>exact ⟨v,rfl⟩
  | false =>
   rcases List.mem_cons.mp h with e|h
   ·cases e;simp at hb
   ·exact bu h
theorem fk {α:Type}:∀{l l':List (Str × α)}{x:Str}{c:α},(l++l').lookup x=some c->l.lookup x=some c ∨ (l.lookup x=none/\l'.lookup x=some c)
 | [],l',x,c,h=>.inr ⟨rfl,h⟩
 | (k,v)::r,l',x,c,h=>by
  rw[M3,L8] at h
  rw[L8]
  cases hb:x == k with
  | true=>rw[hb] at h;exact .inl h
  | false=>rw[hb] at h;exact fk h
theorem Z6 {α:Type}:∀{l l':List (Str × α)}{x:Str}{c:α},l.lookup x=some c->(l++l').lookup x=some c
 | [],l',x,c,h=>by cases h
 | (k,v)::r,l',x,c,h=>by
  rw[M3,L8]
  rw[L8] at h
  cases hb:x == k with
  | true=>rw[hb] at h;exact h
  | false=>rw[hb] at h;exact Z6 h
theorem bp {α:Type}:∀{l l':List (Str × α)}{x:Str},l.lookup x=none->(l++l').lookup x=l'.lookup x
 | [],l',x,h=>rfl
 | (k,v)::r,l',x,h=>by
  rw[M3,L8]
  rw[L8] at h
  cases hb:x == k with
  | true=>rw[hb] at h;cases h
  | false=>rw[hb] at h;exact bp h
theorem fj {env:Env}:∀(names:List (Str × aB)) (x:Str),
  (names.map fun (n,k)=>if (k == W2&&env.scope.kind == .function&&env.kindOf n == some .cell) then (n,dw) else (n,k)).lookup x
   =(names.lookup x).map fun k=>if (k == W2&&env.scope.kind == .function&&env.kindOf x == some .cell)=true then dw else k
 | [],x=>rfl
 | (n,k)::r,x=>by
  have ih:=fj (env:=env) r x
  rw[B7]
  cases hx:x == n with
  | true =>
   have e:x=n:=beq_iff_eq.mp hx
   subst e
   by_cases hc:(k == W2&&env.scope.kind == .function&&env.kindOf x == some .cell)=true
   ·simp only[hc,if_true,L8,hx,bS]
   ·simp only[hc,L8,hx,bS]
    simp
  | false =>
   show List.lookup x ((if (k == W2&&env.scope.kind == .function&&env.kindOf n == some .cell)=true then (n,dw) else (n,k))::_)=_
   by_cases hc:(k == W2&&env.scope.kind == .function&&env.kindOf n == some .cell)=true
   ·rw[if_pos hc]
    simp only[L8,hx]
    exact ih
   ·rw[if_neg hc]
    simp only[L8,hx]
    exact ih
theorem ir:∀{names:List (Str × aB)}{n:Nat}{acc:List (Str × Addr)}{x:Str}{d:Addr},(x,d)∈Q7 n names acc->(x,d)∈acc ∨ (x,dw)∈names
 | [],_,_,_,_,h=>.inl h
 | (y,k)::r,n,acc,x,d,h=>by
  unfold Q7 at h
  by_cases hk:(k == dw)=true
  ·rw[if_pos hk] at h
   have e:k=.cell:=beq_iff_eq.mp hk
   subst e
   rcases ir h with q|q
   ·rcases List.mem_cons.mp q with z|z
    ·cases z;exact .inr j8
    ·exact .inl z
   ·exact .inr (j9 _ q)
  ·rw[if_neg hk] at h
   rcases ir h with q|q
   ·exact .inl q
   ·exact .inr (j9 _ q)
noncomputable def lD (scope:Q0):Bool:=scope.names.all fun x=>scope.names.lookup x.1 == some x.2
theorem jk (h:lD scope=true) {x:Str × aB} (hx:x∈scope.names):scope.names.lookup x.1=some x.2:=beq_iff_eq.mp (List.all_eq_true.mp h x hx)
variable {x:Str}
theorem tU (h:(sJ scope env).names.lookup x=some .cell ∨ (sJ scope env).names.lookup x=some .free):
  scope.names.lookup x=some .cell ∨ scope.names.lookup x=some .free:=by
 unfold sJ at h
 rw[fj] at h
 cases e:scope.names.lookup x with
 | none=>rw[e] at h;rcases h with h|h <;> cases h
 | some k =>
  rw[e,bS] at h
  by_cases hc:(k == W2&&env.scope.kind == .function&&env.kindOf x == some .cell)=true
  ·rw[A6,A6] at hc
   exact .inr (by rw[beq_iff_eq.mp hc.1.1])
  ·simp only[hc] at h
   simpa using h
variable {A:A5}{M:lZ}{E:b9->d7->Prop}{s:d7}{cl:List (Str × Addr)}
theorem vV {globals:Addr}{qual:Str}{Q:Env->d7->Prop}
  (h:Q (newEnv scope s.heap.objs.size globals (Q7 (s.heap.objs.size+1) scope.names []++cl) qual none .none (some env) kY)
   { s with heap:=jW (s.heap.push { cls:=.type "dict",data:=.dict #[] }) scope.names }):
  m6 M A (Af scope globals cl [] qual none .none (some env)) Q E s:=by
 simp only[Af,Option.isSome_some,if_true]
 refine b8 (wpAny_alloc ?_)
 refine b8 (wpAny_layCells _ (fun name kind cells=>by cases hkc:kind == dw <;> simp[hkc]) _ _ _ _ ?_)
 rw[show ({ s with heap:=s.heap.push { cls:=.type "dict",data:=.dict #[] } }:d7).heap.objs.size=s.heap.objs.size+1 from G3 ..,dm]
 exact b8 (d9 (d9 h))
noncomputable def Cx.comp (X:Cx) (scope:Q0) (N:List Str) (s:d7) (H:Hp) (ex:List Addr):Cx where
 prog:=X.prog
 w:=X.w
 K:=X.K
 mg:=X.mg
 base:=X.base
 A:=X.A
 N:=N
 s₀:=s
 H₀:=H
 env:=compEnvC scope (Q7 (s.heap.objs.size+1) scope.names []++W6 X.env scope.names []) s.heap.objs.size X.env
 outer:=X.stack
 stack:=X.stack
 ex:=ex
 fn:=fun x=>scope.names.lookup x == some .cell
 calm:=X.calm
 pn:=[]
 xe:=fun _ _=>False
noncomputable def iQ (ix:List (Option Nat)) (σ:St):St:=ix.map fun o=>o.bind fun i=>(σ[i]?).join
noncomputable def jl (scope:Q0) (N:List Str):List Str->List (Option Nat)->Bool
 | [],[]=>true
 | _::N',none::ix=>jl scope N N' ix
 | x::N',some i::ix=>N[i]? == some x&&scope.names.lookup x == some .free&&jl scope N N' ix
 | _,_=>false
theorem lE {scope:Q0}{N:List Str}:∀{N':List Str}{ix:List (Option Nat)},jl scope N N' ix=true->ix.length=N'.length
 | [],[],_=>rfl
 | _::N',none::ix,h=>by simp[lE (N':=N') (ix:=ix) h]
 | x::N',some i::ix,h=>by
  unfold jl at h
  rw[A6] at h
  simp[lE (N':=N') (ix:=ix) h.2]
 | [],_::_,h=>by simp[jl] at h
 | _::_,[],h=>by simp[jl] at h
theorem lF {scope:Q0}{N:List Str}:∀{N':List Str}{ix:List (Option Nat)}{j i:Nat},jl scope N N' ix=true->ix[j]?=some (some i) ->
  ∃x,N'[j]?=some x/\N[i]?=some x/\scope.names.lookup x=some .free
 | [],[],j,i,_,e=>by simp at e
 | y::N',none::ix,0,i,h,e=>by simp at e
 | y::N',none::ix,j+1,i,h,e=>by
  obtain ⟨x,h1,h2⟩:=lF (N':=N') (ix:=ix) (j:=j) (i:=i) h (by simpa using e)
  exact ⟨x,by simpa using h1,h2⟩
 | y::N',some k::ix,0,i,h,e=>by
  unfold jl at h
  rw[A6,A6] at h
  simp at e
  subst e
  exact ⟨y,rfl,beq_iff_eq.mp h.1.1,beq_iff_eq.mp h.1.2⟩
 | y::N',some k::ix,j+1,i,h,e=>by
  unfold jl at h
  rw[A6] at h
  obtain ⟨x,h1,h2⟩:=lF (N':=N') (ix:=ix) (j:=j) (i:=i) h.2 (by simpa using e)
  exact ⟨x,by simpa using h1,h2⟩
 | [],_::_,_,_,h,_=>by simp[jl] at h
 | _::_,[],_,_,h,_=>by simp[jl] at h
noncomputable def bK (scope:Q0) (env:Env):Bool:=scope.names.all fun x=>!(x.2 == .free) || env.kindOf x.1 == some .cell || env.kindOf x.1 == some .free
theorem ik (h:bK scope env=true) {x:Str × aB} (hx:x∈scope.names) (hk:x.2=.free):env.kindOf x.1=some .cell ∨ env.kindOf x.1=some .free:=by
 have:=List.all_eq_true.mp h x hx
 rw[hk] at this
 simpa using this
section
variable {X:Cx}{pins:List (Addr × Obj)}{σ:St}{H:Hp}{s:d7}{scope:Q0}{N:List Str}{ix:List (Option Nat)}{ex:List Addr}
theorem E6.closed (I:E6 X pins σ H s) (hf:bK scope X.env=true):∀x∈scope.names,x.2=.free->∃c,X.env.cells.lookup x.1=some c :=
 fun x hx hk=>I.ok.has x.1 (ik hf hx hk)
theorem vN {j:Nat}{v:V} (h:(iQ ix σ)[j]?=some (some v)):∃i,ix[j]?=some (some i)/\σ[i]?=some (some v):=by
 unfold iQ at h
 rw[A4] at h
 cases e:ix[j]? with
 | none=>rw[e] at h;cases h
 | some o =>
  rw[e] at h
  cases o with
  | none=>cases h
  | some i =>
   refine ⟨i,rfl,?_⟩
   have h':(σ[i]?).join=some v:=E7 h
   cases q:σ[i]? with
   | none=>rw[q] at h';cases h'
   | some z=>rw[q] at h';exact congrArg some h'
theorem E6.comp (I:E6 X pins σ H s) (hk:scope.kind=.function) (hnm:lD scope=true) (hf:bK scope X.env=true) (hx:jl scope X.N N ix=true)
  (hex:∀b∈ex,H b=none/\b≠X.env.locals/\b ∉ X.fs/\(b∈X.ex ∨ X.s₀.heap.objs.size<=b)/\(∀x c,X.env.cells.lookup x=some c->c≠b)/\b<s.heap.objs.size):
  E6 (X.comp scope N s H ex) [] (iQ ix σ) H { s with heap:=jW (s.heap.push { cls:=.type "dict",data:=.dict #[] }) scope.names }:=by
 have hcl:=I.closed hf
 have hkeep:∀b o,s.heap.get? b=some o->(jW (s.heap.push { cls:=.type "dict",data:=.dict #[] }) scope.names).get? b=some o:=fun b o e=>xl _ _ b o (f9 _ e)
 have ok:=cellsFrom_ok scope.names (s.heap.push { cls:=.type "dict",data:=.dict #[] }) (s.heap.objs.size+1) [] ⟨fun _ _ hm=>(nomatch hm),bH⟩ (by rw[G3];exact i8 _)
 rw[G3] at ok
 have hns:(jW (s.heap.push { cls:=.type "dict",data:=.dict #[] }) scope.names).Ns s.heap.objs.size (fun _=>none):=(Heap.Ns.new s.heap (.type "dict")).keeps (xl _ _)
 have cells:∀x c,(X.comp scope N s H ex).env.cells.lookup x=some c->(x,c)∈Q7 (s.heap.objs.size+1) scope.names [] ∨ X.env.cells.lookup x=some c:=fun x c e=>by
  have e':(Q7 (s.heap.objs.size+1) scope.names []++W6 X.env scope.names []).lookup x=some c:=e
  rcases fk e' with q|⟨_,q⟩
  ·exact .inl (mem_of_lookup q)
  ·rcases gD hcl (mem_of_lookup q) with z|z
   ·cases z
   ·exact .inr z
 have old:∀x c,X.env.cells.lookup x=some c->c+1<=s.heap.objs.size:=fun x c e=>let ⟨v,q⟩:=I.cell x c e;q.lt
 have own:∀x c,(x,c)∈Q7 (s.heap.objs.size+1) scope.names []->s.heap.objs.size+1<=c:=fun x c e=>(ok.empty x c e).2
 refine ⟨⟨I.ok.mod,hk,I.ok.glob,I.ok.blt,i8 _,fun x y c h1 h2=>?_,fun x h1=>?_,fun x c h1 h2=>?_,I.ok.hd,I.ok.frames,.inl rfl,fun b hb=>⟨?_,fun x c e=>?_⟩,I.bs,n6 I.ok.bsz I.sz,fun b o e hb=>?_,fun b hb hb'=>?_,I.stack,I.stkFree⟩,
  rfl,I.bare,Un.kept hkeep,⟨_,hns,fun j x v h1 h2 h3=>?_⟩,fun x c e=>?_,I.hok.fresh (i8 _),fun x c e=>?_,fun p hp=>absurd (show p∈([]:List (Addr × Obj)) from hp) (by simp),I.hok.kept hkeep,?_⟩
 ·rcases cells x c h1 with q1|q1 <;> rcases cells y c h2 with q2|q2
  ·exact name_of_addr ok.apart q1 q2
  ·exact absurd (n6 (own _ _ q1) (n6 (cH _) (old _ _ q2))) (BJ _)
  ·exact absurd (n6 (own _ _ q2) (n6 (cH _) (old _ _ q1))) (BJ _)
  ·exact I.ok.inj x y c q1 q2
 ·have h1':scope.names.lookup x=some .cell ∨ scope.names.lookup x=some .free:=tU h1
  rcases h1' with q|q
  ·obtain ⟨c,e⟩:=lQ (n:=s.heap.objs.size+1) (sc:=scope) q
   exact ⟨c,Z6 e⟩
  ·obtain ⟨c,e⟩:=eS (env:=X.env) (acc:=[]) (mem_of_lookup q)
   cases z:(Q7 (s.heap.objs.size+1) scope.names []).lookup x with
   | some d=>exact ⟨d,Z6 z⟩
   | none =>
    obtain ⟨d,e'⟩:=bu e
    exact ⟨d,(bp z).trans e'⟩
 ·have h1':scope.names.lookup x=some .cell:=beq_iff_eq.mp h1
  obtain ⟨d,e⟩:=lQ (n:=s.heap.objs.size+1) (sc:=scope) h1'
  have e':(Q7 (s.heap.objs.size+1) scope.names []++W6 X.env scope.names []).lookup x=some c:=h2
  rw[Z6 e] at e'
  cases e'
  exact n6 (cH _) (own _ _ (mem_of_lookup e))
 ·exact v8 (hex b hb).2.2.2.2.2
 ·rcases cells x c e with q|q
  ·exact F6 (B5 (hex b hb).2.2.2.2.2 (n6 (cH _) (own _ _ q)))
  ·exact (hex b hb).2.2.2.2.1 x c q
 ·rcases (hex b hb).2.2.2.1 with z|z
  ·exact I.ok.noex b o e z
  ·exact absurd (B5 (j7 e) (n6 I.ok.bsz z)) (Z0 _)
 ·rcases List.mem_cons.mp (I.stkSub b hb') with z|z
  ·exact (hex b hb).2.1 z
  ·exact (hex b hb).2.2.1 z
 ·obtain ⟨i,e1,e2⟩:=vN h2
  obtain ⟨y,f1,f2,f3⟩:=lF hx e1
  have exy:x=y:=by
   have h1':N[j]?=some x:=h1
   rw[f1] at h1';exact (E7 h1').symm
  subst exy
  obtain ⟨m,hm,hl⟩:=I.loc
  have kx:=ik hf (mem_of_lookup f3) rfl
  have vis:La X.env.scope x:=by
   rcases kx with k|k
   ·exact .inr (.inl k)
   ·exact .inr (.inr k)
  obtain ⟨u,ru,l⟩:=hl i x v f2 e2 vis
  refine ⟨u,ru,.inr ?_⟩
  have hv:(sJ scope X.env).names.lookup x=some .cell ∨ (sJ scope X.env).names.lookup x=some .free:=by
   unfold sJ
   rw[fj,f3,bS]
   split
   ·exact .inl rfl
   ·exact .inr rfl
  refine ⟨hv,?_⟩
  rcases l with ⟨k,_⟩|⟨k,c,ec,z⟩
  ·have k':X.env.kindOf x=some .local:=k
   rcases kx with q|q <;> rw[q] at k' <;> cases k'
  ·obtain ⟨d,ed⟩:=eS (env:=X.env) (acc:=[]) (mem_of_lookup f3)
   have nocell:(Q7 (s.heap.objs.size+1) scope.names []).lookup x=none ∨ ∃d,(Q7 (s.heap.objs.size+1) scope.names []).lookup x=some d:=by
    cases (Q7 (s.heap.objs.size+1) scope.names []).lookup x with
    | none=>exact .inl rfl
    | some d=>exact .inr ⟨d,rfl⟩
   rcases nocell with q|⟨d',q⟩
   ·obtain ⟨d2,ed2⟩:=bu ed
    have hd2:X.env.cells.lookup x=some d2:=by
     rcases gD hcl (mem_of_lookup ed2) with z|z
     ·cases z
     ·exact z
    rw[ec] at hd2
    cases hd2
    exact ⟨c,(bp q).trans ed2,z.keeps hkeep⟩
   ·-- a name is not both free and a cell of the block
    exfalso
    rcases ir (mem_of_lookup q) with z|z
    ·cases z
    ·have z':=jk hnm z
     rw[f3] at z'
     cases z'
 ·rcases cells x c e with q|q
  ·exact ⟨none,(ok.empty x c q).1⟩
  ·obtain ⟨v,z⟩:=I.cell x c q
   exact ⟨v,z.keeps hkeep⟩
 ·rcases cells x c e with q|q
  ·exact I.hok.fresh (n6 (cH _) (own x c q))
  ·exact I.freeC x c q
 ·show (iQ ix σ).length=N.length
  unfold iQ
  rw[d6]
  exact lE hx
end
section
variable {prog:j6}{w:r9}{A:A5}{R:vb->d7->Prop}{s:d7}
theorem uD {elt target iter:Expr}{ifs:List Expr}{scope:Q0}{pos:Pos}{it acc:b9}{env:Env} (I:Nat->d7->Prop)
  (turn:∀n s,I n s->m6 (t8 prog w) A (bQ it) (fun r s₁=>match r with
   | none=>R (.ok .next) s₁
   | some v=>m6 (t8 prog w) A (lY target it v) (fun _ s₁'=>m6 (t8 prog w) A (qN target env v) (fun _ s₂ =>
     m6 (t8 prog w) A (forIn ifs true fun c r=>if r=true then do let ok <- Jr c env (eval c env);pure (bC ok) else pure (bC r)) (fun ok s₃ =>
      if ok=true then m6 (t8 prog w) A (eval elt env) (fun x s₄ =>
       m6 (t8 prog w) A (call (.builtin "list.append") [acc,x]) (fun _ s₅=>∃m,m<n/\I m s₅) (fun _ _=>False) s₄) (fun _ _=>False) s₃
      else ∃m,m<n/\I m s₃) (fun _ _=>False) s₂) (fun _ _=>False) s₁') (fun _ _=>False) s₁) (fun _ _=>False) s)
  (n:Nat) (h:I n s):
  kX (t8 prog w) A (.compLoop (.ListComp elt [⟨target,iter,ifs,0⟩] scope pos) 0 it acc env) R s:=by
 refine codeAny_loop rfl I (fun n s hI=>?_) n h
 show m6 _ A ((compTurn (.ListComp elt [⟨target,iter,ifs,0⟩] scope pos) 0 it acc env).onRaise (fun x=>do Eb x env;theTreesLotGoes x)) _ _ s
 refine wpAny_noted ?_
 rw[compTurn_list]
 refine b8 (fA (b8 (K5 (turn n s hI) (fun r s₁ h₁=>?_) fun _ _ h'=>h'.elim)))
 cases r with
 | none=>exact d9 h₁
 | some v =>
  refine b8 (K5 h₁ (fun _ s₁' h₁'=>?_) fun _ _ h'=>h'.elim)
  refine b8 (K5 h₁' (fun _ s₂ h₂=>b8 (K5 h₂ (fun ok s₃ h₃=>?_) fun _ _ h'=>h'.elim)) fun _ _ h'=>h'.elim)
  cases ok with
  | false=>exact d9 ⟨rfl,h₃⟩
  | true =>
   exact b8 (b8 (K5 h₃ (fun x s₄ h₄=>b8 (K5 h₄ (fun _ s₅ h₅=>d9 (d9 ⟨rfl,h₅⟩)) fun _ _ h'=>h'.elim)) fun _ _ h'=>h'.elim))
end
noncomputable def Wk (σ σ2:St):Prop:=σ.length=σ2.length/\∀(i:Nat) v,σ[i]?=some (some v)->σ2[i]?=some (some v)
theorem Wk.set {σ:St}{i:Nat}{v:V} (h:σ[i]?=some none ∨ σ[i]?=none):Wk σ (σ.set i (some v)):=by
 refine ⟨by simp,fun j u e=>?_⟩
 by_cases hj:j=i
 ·subst hj
  rcases h with h|h <;> rw[h] at e <;> cases e
 ·rw[G5 (J9 hj)]
  exact e
section
variable {X:Cx}{pins:List (Addr × Obj)}{σ:St}{H H':Hp}{s s':d7}{scope:Q0}{N:List Str}{ix:List (Option Nat)}{fp:List Addr}
noncomputable abbrev aN (s:d7):d7:={ s with heap:=s.heap.push { cls:=.type "list",dict:=none,data:=.seq ([]:List b9).toArray } }
theorem bA (s:d7):(aN s).heap.objs.size=s.heap.objs.size+1:=G3 ..
theorem E6.comp_end {pins':List (Addr × Obj)}{σ':St}{ys:List V}{its:List b9}{n:Nat}{h':Heap} (I:E6 X pins σ H s) (J:E6 (X.comp scope N (aN s) H (s.heap.objs.size::fp)) pins' σ' H' s') (hfp:∀b∈fp,oj X pins H b)
  (hD:H' s.heap.objs.size=none) (hl:s'.heap.get? s.heap.objs.size=some { cls:=.type "list",data:=.seq its.toArray n }) (hv:M9 ys its) (hz:ys.length<=i6)
  (hs:K3 (aN s).heap.objs.size s'.heap h'):E6 X pins σ (n5 H' s.heap.objs.size (.lst ys)) { s' with heap:=h' }:=by
 have oldC:∀b,b<s.heap.objs.size->b≠(aN s).heap.objs.size:=fun b hb=>by rw[bA];exact v8 (R9 hb)
 have DC:s.heap.objs.size≠(aN s).heap.objs.size:=by rw[bA];exact v8 (bG _)
 have pushed:∀b o,s.heap.get? b=some o->(aN s).heap.get? b=some o:=fun b o e=>f9 _ e
 have nex:∀b o,s.heap.get? b=some o->b ∉ fp->b ∉ (X.comp scope N (aN s) H (s.heap.objs.size::fp)).ex:=fun b o e hb z=>by
  rcases List.mem_cons.mp (show b∈s.heap.objs.size::fp from z) with z|z
  ·rw[z] at e;exact absurd (j7 e) (Z0 _)
  ·exact hb z
 have U:=J.base
 have un:Un (lN X.stack) fp H (n5 H' s.heap.objs.size (.lst ys)) s.heap h':=by
  refine ⟨fun b o e n hb hx=>?_,fun b o e n hb hx=>?_,fun b o e n hx=>?_,fun b o e hx=>?_,fun b xs e=>?_,fun b o u e=>?_,fun b ps e=>?_⟩
  ·exact (hs.2 b (oldC b (j7 e))).trans (U.keep b o (pushed b o e) n hb (nex b o e hx))
  ·obtain ⟨sl,q⟩:=U.slot b o (pushed b o e) n hb (nex b o e hx)
   exact ⟨sl,(hs.2 b (oldC b (j7 e))).trans q⟩
  ·rw[C0 (v8 (j7 e))]
   exact U.free b o (pushed b o e) n (nex b o e hx)
  ·obtain ⟨o',q⟩:=U.there b o (pushed b o e) (nex b o e hx)
   exact ⟨o',(hs.2 b (oldC b (j7 e))).trans q⟩
  ·have q:=U.tups b xs e
   rw[C0 (v5 q hD)];exact q
  ·have q:=U.frzs b o u e
   rw[C0 (v5 q hD)];exact q
  ·obtain ⟨m,q⟩:=U.tbls b ps e
   exact ⟨m,by rw[C0 (v5 q hD)];exact q⟩
 have hC:H' (aN s).heap.objs.size=none:=J.free
 have hok:cV X.prog X.w (n5 H' s.heap.objs.size (.lst ys)) h':=fun b u e=>by
  by_cases hb:b=s.heap.objs.size
  ·subst hb
   rw[f7] at e;cases e
   exact ⟨hz,its,n,hv,(hs.2 _ DC).trans hl⟩
  ·rw[C0 hb] at e
   refine (J.hok b u e).stay (fun c v hc q=>(hs.2 c ?_).trans q) (fun c q=>by rw[C0 (v5 q hD)];exact q) fun c xs q=>by rw[C0 (v5 q hD)];exact q
   rintro rfl
   rcases hc with z|z
   ·rw[<- z,hC] at e;cases e
   ·rw[hC] at z;cases z
 exact I.call' (s':={ s' with heap:=h' }) (ch:=fp) J.os un hok J.bare fun b hb=>⟨(hfp b hb).2.2.2.1,(hfp b hb).2.1,(hfp b hb).2.2.2.2.1,(hfp b hb).2.2.2.2.2⟩
end
section
variable {X:Cx}{scope:Q0}{N:List Str}{ix:List (Option Nat)}{elt target iter:Expr}{ifs:List Expr}{pos:Pos}{wi:TI}{g:TG}{te:TE}{tc:TT}
noncomputable def FI (X:Cx) (ifs:List Expr) (t:TT):Prop :=
 ∀(pins:List (Addr × Obj)) (s:d7) (σ:St) (H:Hp) (Q:Bool->Hp->Prop),E6 X pins σ H s->t σ H Q ->
  m6 (t8 X.prog X.w) X.A (forIn ifs true fun c r=>if r=true then do let ok <- Jr c X.env (eval c X.env);pure (bC ok) else pure (bC r)) (TP X pins σ Q) X.xe s
noncomputable def S1:TT:=fun _ H Q=>Q true H
theorem M4:FI X [] S1:=fun _ _ _ H _ I h=>wpAny_tests_nil ⟨H,I,h⟩
noncomputable def Bn (J:It) (σ0:St) (g:TG) (tc:TT) (te:TE) (H1:Hp) (F:List V->Hp->Prop):Prop:=∃W:Nat->Nat->List V->Hp->Prop,(∃m,W 0 m [] H1)/\∀i m ys H2,W i m ys H2->ys.length<=i6 /\
 ((J.stop i H2/\F ys H2) ∨
  (J.go i H2/\∃(Ny:V->Hp->Prop) (Nn:Hp->Prop),(∀y H,Ny y H->∃m',m'<m/\W (i+1) m' (ys++[y]) H)/\(∀H,Nn H->∃m',m'<m/\W (i+1) m' ys H) /\
    ∀x H3,J.yld i H2 x H3->g x σ0 H3 fun σ2 H4=>Wk σ0 σ2/\tc σ2 H4 fun b H5=>if b=true then te σ2 H5 Ny else Nn H5))
theorem wz {pins:List (Addr × Obj)}{σ:St}{H:Hp}{s:d7}{it:Addr}{fp:List Addr}{tn:Nat->Heap->Prop}{J:It}{F:List V->Hp->Prop}{E:b9->d7->Prop}{RR:b9->Addr->vb->d7->Prop}
  (hc:X.calm=true) (hk:scope.kind=.function) (hnm:lD scope=true) (hf:bK scope X.env=true) (hx:jl scope X.N N ix=true)
  (hg:∀s H ex,PG (X.comp scope N s H ex) target g) (ht:∀s H ex,FI (X.comp scope N s H ex) ifs tc) (he:PE (X.comp scope N (aN s) H (s.heap.objs.size::fp)) elt te)
  (I:E6 X pins σ H s) (T:uG X.prog X.w X.K target J fp it tn) (st:tn 0 s.heap) (hfp:∀b∈fp,oj X pins H b) (B:Bn J (iQ ix σ) g tc te H F)
  (fin:∀(ys:List V) (H':Hp) (s':d7) (σ':St) (its:List b9) (n:Nat),E6 (X.comp scope N (aN s) H (s.heap.objs.size::fp)) [] σ' H' s'->H' s.heap.objs.size=none ->
   s'.heap.get? s.heap.objs.size=some { cls:=.type "list",data:=.seq its.toArray n }->M9 ys its->ys.length<=i6->F ys H'->RR (.ref s.heap.objs.size) (aN s).heap.objs.size (.ok .next) s'):
  m6 (t8 X.prog X.w) X.A (newList []) (fun acc s₃=>m6 (t8 X.prog X.w) X.A (Af scope X.env.globals (W6 X.env scope.names []) [] X.env.qual none .none (some X.env)) (fun cenv s₄ =>
   kX (t8 X.prog X.w) X.A (.compStart (.ListComp elt [⟨target,iter,ifs,0⟩] scope pos) 0 (.ref it) acc { cenv with scope:=sJ scope X.env }) (RR acc cenv.locals) s₄) E s₃) E s:=by
 refine E4 (vV ?_) (by show ([]:List b9).toArray.size<=i6;exact u9 _)
 obtain ⟨W,⟨m0,w0⟩,turn⟩:=B
 have I1:E6 X pins σ H (aN s):=I.kept (t':=s.toks) fun b o e=>f9 _ e
 have fpLt:∀b∈fp,b<s.heap.objs.size:=fun b hb=>let ⟨o,e,_⟩:=T.obj 0 _ st b hb;j7 e
 have accE:(aN s).heap.get? s.heap.objs.size=some { cls:=.type "list",dict:=none,data:=.seq ([]:List b9).toArray }:=t7 _ rfl
 have fD:oj X pins H s.heap.objs.size:=I.fpOk (i8 _) (I.hok.fresh (i8 _))
 have J0:E6 (X.comp scope N (aN s) H (s.heap.objs.size::fp)) [] (iQ ix σ) H _:=I1.comp (N:=N) (ix:=ix) (ex:=s.heap.objs.size::fp) hk hnm hf hx fun b hb=>by
  rcases List.mem_cons.mp hb with z|z
  ·subst z
   exact ⟨fD.1,fD.2.1,fD.2.2.1,fD.2.2.2.1,fD.2.2.2.2.1,by rw[bA];exact bG _⟩
  ·obtain ⟨f0,f1,f2,f3,f4,_⟩:=hfp b z
   exact ⟨f0,f1,f2,f3,f4,by rw[bA];exact R9 (fpLt b z)⟩
 have keep0:∀b o,(aN s).heap.get? b=some o->(jW ((aN s).heap.push { cls:=.type "dict",data:=.dict #[] }) scope.names).get? b=some o:=fun b o e=>xl _ _ b o (f9 _ e)
 have st0:tn 0 (jW ((aN s).heap.push { cls:=.type "dict",data:=.dict #[] }) scope.names):=T.keep 0 _ _ st fun b hb o e=>keep0 b o (f9 _ e)
 have exOk:∀b∈s.heap.objs.size::fp,b≠(X.comp scope N (aN s) H (s.heap.objs.size::fp)).env.locals/\b ∉ (X.comp scope N (aN s) H (s.heap.objs.size::fp)).fs /\
   ∀x c,(X.comp scope N (aN s) H (s.heap.objs.size::fp)).env.cells.lookup x=some c->c≠b:=fun b hb=>⟨(J0.ok.exf b hb).1,J0.ok.exfs b hb,(J0.ok.exf b hb).2⟩
 have stat:∀{H':Hp}{o:Obj},(∀b∈fp,H' b=none)->∀b∈fp,oj (X.comp scope N (aN s) H (s.heap.objs.size::fp)) [(s.heap.objs.size,o)] H' b:=fun {H' o} hn b hb=>by
  obtain ⟨e1,e2,e3⟩:=exOk b (j9 _ hb)
  refine ⟨hn b hb,e1,e2,.inl (j9 _ hb),e3,fun p hp=>?_⟩
  have hp':p∈[(s.heap.objs.size,o)]:=(List.mem_append.mp hp).elim (fun z=>absurd (show p∈([]:List (Addr × Obj)) from z) (by simp)) id
  rw[List.mem_singleton.mp hp']
  exact F6 (fpLt b hb)
 have loop:kX (t8 X.prog X.w) X.A (.compLoop (.ListComp elt [⟨target,iter,ifs,0⟩] scope pos) 0 (.ref it) (.ref s.heap.objs.size) (X.comp scope N (aN s) H (s.heap.objs.size::fp)).env) (RR (.ref s.heap.objs.size) (aN s).heap.objs.size)
   { aN s with heap:=jW ((aN s).heap.push { cls:=.type "dict",data:=.dict #[] }) scope.names }:=by
  refine uD (fun n s'=>∃i ys its k H',E6 (X.comp scope N (aN s) H (s.heap.objs.size::fp)) [] (iQ ix σ) H' s'/\tn i s'.heap/\(∀b∈fp,H' b=none)/\H' s.heap.objs.size=none /\
   s'.heap.get? s.heap.objs.size=some { cls:=.type "list",data:=.seq (its:List b9).toArray k }/\M9 ys its/\W i n ys H') ?_ m0
   ⟨0,[],[],0,H,J0,st0,fun b hb=>(hfp b hb).1,fD.1,keep0 _ _ accE,.nil,w0⟩
  rintro n s3 ⟨i,ys,its,k,H3,I3,st3,fr3,d3,l3,v3,w3⟩
  obtain ⟨hz,hw⟩:=turn i n ys H3 w3
  have pinD:E6 (X.comp scope N (aN s) H (s.heap.objs.size::fp)) [(s.heap.objs.size,{ cls:=.type "list",data:=.seq its.toArray k })] (iQ ix σ) H3 s3:=I3.pins_of fun p hp=>by
   rw[List.mem_singleton.mp hp]
   exact ⟨l3,d3,(exOk _ j8).1,(exOk _ j8).2.1,fun v z=>by cases z⟩
  rcases hw with ⟨stop,fy⟩|⟨go,Ny,Nn,hNy,hNn,step⟩
  ·refine X0 (T.done (X.comp scope N (aN s) H (s.heap.objs.size::fp)) rfl rfl rfl hc i _ s3 (iQ ix σ) H3 (fun _ _=>False) pinD (stat fr3) st3 stop) fun r s4 ⟨hr,I4⟩=>?_
   subst hr
   have q:=(I4.pin (s.heap.objs.size,_) (A9 _ j8)).1
   exact fin ys H3 s4 _ its k (I4.pins_of fun p hp=>by cases hp) d3 q v3 hz fy
  ·refine X0 (T.item (X.comp scope N (aN s) H (s.heap.objs.size::fp)) rfl rfl rfl hc i _ s3 (iQ ix σ) H3 (fun _ _=>False) pinD (stat fr3) st3 go) fun r s4 ⟨u,hr,h4⟩=>?_
   subst hr
   refine X0 h4 fun _ s5 ⟨x,H5,I5,r5,y5,st5,fr5⟩=>?_
   have I5':=I5.pinned (stat fr5) (T.obj _ _ st5)
   refine X0 (hg (aN s) H (s.heap.objs.size::fp) _ s5 (iQ ix σ) H5 x u _ I5' r5 (step x H5 y5)) fun _ s6 ⟨σ6,H6,I6,wk6,q6⟩=>?_
   refine X0 (ht (aN s) H (s.heap.objs.size::fp) _ s6 σ6 H6 _ I6 q6) fun ok s7 ⟨H7,I7,q7⟩=>?_
   cases ok with
   | false =>
    obtain ⟨m',hm,w7⟩:=hNn H7 q7
    refine ⟨m',hm,i+1,ys,its,k,H7,(I7.weak wk6.1 wk6.2).pins_of (fun p hp=>by cases hp),?_,fun b hb=>?_,?_,?_,v3,w7⟩
    ·exact T.keep _ _ _ st5 fun b hb o e=>(I7.pin (b,o) (A9 _ (A9 _ (cS hb e)))).1
    ·obtain ⟨o,e,d⟩:=T.obj _ _ st5 b hb
     exact (I7.pin (b,o) (A9 _ (A9 _ (cS hb e)))).2.1
    ·exact (I7.pin (s.heap.objs.size,_) (A9 _ (O0 _ j8))).2.1
    ·exact (I7.pin (s.heap.objs.size,_) (A9 _ (O0 _ j8))).1
   | true =>
    show m6 _ _ _ _ _ _
    refine X0 (he _ s7 σ6 H7 _ I7 q7) fun yv s8 ⟨y,H8,I8,r8,q8'⟩=>?_
    obtain ⟨m',hm,w8⟩:=hNy y H8 q8'
    have q8:=I8.pin (s.heap.objs.size,_) (A9 _ (O0 _ j8))
    refine wpAny_list_append_plain (l:=s.heap.objs.size) (items:=its.toArray) ⟨k,q8.1⟩ (fun h' hl' sb=>?_) (by rw[n9,<- v3.length];exact hz)
    obtain ⟨k',hl'⟩:=hl'
    have I9:E6 (X.comp scope N (aN s) H (s.heap.objs.size::fp)) [] (iQ ix σ) H8 { s8 with heap:=h' }:=((I8.weak wk6.1 wk6.2).pins_of (pins':=[]) (fun p hp=>by cases hp)).turned (t':=s8.toks) (it:=s.heap.objs.size)
     (fun b o hb e=>(sb.2 b hb).trans e) q8.2.1 (exOk _ j8).1 (.inl j8) (exOk _ j8).2.2 (fun p hp=>absurd (show p∈([]:List (Addr × Obj)) from hp) (by simp))
    refine ⟨m',hm,i+1,ys++[y],its++[yv],k',H8,I9,?_,fun b hb=>?_,q8.2.1,?_,v3.append (.cons r8 .nil),w8⟩
    ·refine T.keep _ _ _ st5 fun b hb o e=>(sb.2 b (v8 (fpLt b hb))).trans (I8.pin (b,o) (A9 _ (A9 _ (cS hb e)))).1
    ·obtain ⟨o,e,d⟩:=T.obj _ _ st5 b hb
     exact (I8.pin (b,o) (A9 _ (A9 _ (cS hb e)))).2.1
    ·have e:its.toArray.push yv=(its++[yv]).toArray:=by simp
     rw[<- e];exact hl'
 exact codeAny_compStart_list loop (T.self _ 0 _ _ _ st0 loop)
theorem N4 (hc:X.calm=true) (hi:PI X target iter wi) (hg:∀s H ex,PG (X.comp scope N s H ex) target g) (ht:∀s H ex,FI (X.comp scope N s H ex) ifs tc) (he:∀s H ex,PE (X.comp scope N s H ex) elt te)
  (hk:scope.kind=.function) (hnm:lD scope=true) (hf:bK scope X.env=true) (hx:jl scope X.N N ix=true) (hs:∀x,sL iter X.env x=pure x):
  PE X (.ListComp elt [⟨target,iter,ifs,0⟩] scope pos) (fun σ H Q=>wi σ H fun J H1=>Bn J (iQ ix σ) g tc te H1 fun ys H2=>∀p,H2 p=none->Q (.ref p) (n5 H2 p (.lst ys))):=by
 intro pins s σ H Q I h
 rw[eval_ListComp]
 refine BC (use:=none) rfl hs (fQ (I.closed hf)) hk (fun x hx hl=>(jk hnm hx).trans (by rw[hl])) ?_
 refine X0 (hi pins s σ H _ I h) fun v s1 h1=>X0 h1 fun itv s2 h2=>?_
 obtain ⟨it,fp,tn,J,H2,e,I2,T,st2,f2,B⟩:=h2
 subst e
 refine wz (RR:=fun acc C=>compPost (t8 X.prog X.w) X.A X.xe none (EP X pins σ Q) acc C) hc hk hnm hf hx hg ht (he _ _ _) I2 T st2 f2 B ?_
 intro ys H' s' σ' its n J' hD hl hv hz hF
 obtain ⟨m,hm,_⟩:=J'.loc
 exact ⟨m,hm,fun h' hs'=>⟨.ref s2.heap.objs.size,_,I2.comp_end J' f2 hD hl hv hz hs',rfl,hF _ hD⟩⟩
theorem jg {i:Nat}{y:Str}{py spos:Pos} (hc:X.calm=true) (hN:X.N.Nodup) (hn:X.N[i]?=some y) (hy:X.env.scope.names.lookup y=some .local)
  (hi:PI X target iter wi) (hg:∀s H ex,PG (X.comp scope N s H ex) target g) (ht:∀s H ex,FI (X.comp scope N s H ex) ifs tc) (he:∀s H ex,PE (X.comp scope N s H ex) elt te)
  (hk:scope.kind=.function) (hnm:lD scope=true) (hf:bK scope X.env=true) (hx:jl scope X.N N ix=true) (hs:∀x,sL iter X.env x=pure x)
  (hsw:om (.ListComp elt [⟨target,iter,ifs,0⟩] scope pos) (some (.Name y py)) spos.line X.env=pure true):
  PS X (.Assign [.Name y py] (.ListComp elt [⟨target,iter,ifs,0⟩] scope pos) spos) (fun D σ H=>wi σ H fun J H1=>Bn J (iQ ix σ) g tc te H1 fun ys H2=>∀p,H2 p=none->D.nx (σ.set i (some (.ref p))) (n5 H2 p (.lst ys))):=by
 intro pins s σ H D I h
 rw[exec_Assign_Name_used _ _ _ _ hsw]
 refine b8 (fA (b8 ?_))
 show m6 _ X.A (do let _ <- comprehension (.ListComp elt [⟨target,iter,ifs,0⟩] scope pos) scope X.env _ (newList []) false (eval iter X.env) (some (qN (.Name y py) X.env))) _ _ s
 refine b8 (X0 (BC (use:=some (qN (.Name y py) X.env)) (Q:=fun _ s'=>SP X pins D .next s') rfl hs (fQ (I.closed hf)) hk (fun x hx hl=>(jk hnm hx).trans (by rw[hl])) ?_) fun _ s' hq=>d9 (d9 hq))
 refine X0 (hi pins s σ H _ I h) fun v s1 h1=>X0 h1 fun itv s2 h2=>?_
 obtain ⟨it,fp,tn,J,H2,e,I2,T,st2,f2,B⟩:=h2
 subst e
 refine wz (RR:=fun acc C=>compPost (t8 X.prog X.w) X.A X.xe (some (qN (.Name y py) X.env)) (fun _ s'=>SP X pins D .next s') acc C) hc hk hnm hf hx hg ht (he _ _ _) I2 T st2 f2 B ?_
 intro ys H' s' σ' its n J' hD hl hv hz hF
 obtain ⟨m,hm,_⟩:=J'.loc
 have I3:=I2.comp_end (h':=s'.heap) J' f2 hD hl hv hz (.refl ..)
 show m6 _ X.A (qN (.Name y py) X.env (.ref s2.heap.objs.size)) _ _ _
 refine Lq (rH (v:=.ref s2.heap.objs.size) I3 hN hn (.inl hy) rfl (fun s'' I4 hsb=>?_) (.inr hy))
 obtain ⟨a,sb,ha⟩:=hsb
 have hCa:(aN s2).heap.objs.size≠a:=by
  rw[bA]
  rcases ha with z|z
  ·rw[z];exact F6 (R9 I2.lt)
  ·obtain ⟨v,q⟩:=I2.cell y a z
   exact F6 (R9 q.lt)
 have hC2:(n5 H' s2.heap.objs.size (.lst ys)) (aN s2).heap.objs.size=none:=by
  rw[C0 (by rw[bA];exact F6 (bG _))]
  exact J'.free
 refine ⟨m,hm.sameBut sb hCa,fun h' hs'=>?_⟩
 refine ⟨_,_,?_,hF _ hD⟩
 obtain ⟨m2,n2,_⟩:=id I4.loc
 refine I4.turned (t':=s''.toks) (it:=(aN s2).heap.objs.size) (fun b o hb e=>(hs'.2 b hb).trans e) hC2 ?_ ?_ ?_ ?_
 ·rw[bA];exact F6 (R9 I2.lt)
 ·rw[bA];exact .inr (n6 I2.sz (cH _))
 ·intro x c e
  obtain ⟨v,q⟩:=I2.cell x c e
  rw[bA];exact v8 (R9 q.lt)
 ·intro p hp
  rw[bA];exact v8 (R9 (j7 (I2.pin p hp).1))
end
section
variable {X:Cx}{pins:List (Addr × Obj)}{σ:St}{H:Hp}{s:d7}{p:Addr}{xs:List V}
variable {A:A5}
theorem pC {E:b9->d7->Prop}{Q:b9->d7->Prop} (I:E6 X pins σ H s) (hh:A.handled=none) (hs:eV X.K H p xs ∨ dH X.K H p xs)
  (h:∀(its:List b9) (it:Addr) (fp wr:List Addr) (St:Nat->Heap->Prop) (h2:Heap),M9 xs its->Walks X.prog X.w A it fp wr its.length (fun i v=>its[i]?=some v) St->St 0 h2->(∀b∈fp,b<h2.objs.size) ->
   (∀h':Heap,(∀b o,b ∉ wr->h2.get? b=some o->h'.get? b=some o)->∀b o,s.heap.get? b=some o->h'.get? b=some o)->Q (.ref it) { s with heap:=h2 }):
  m6 (t8 X.prog X.w) A (nX (.ref p)) Q E s:=by
 have keep:∀(o:Obj) (h':Heap),(∀b u,b ∉ [s.heap.objs.size]->(s.heap.push o).get? b=some u->h'.get? b=some u)->∀b u,s.heap.get? b=some u->h'.get? b=some u:=fun o h' hk b u e =>
  hk b u (fun hm=>by rw[List.mem_singleton.mp hm] at e;exact Z0 _ (j7 e)) (f9 _ e)
 rcases hs with hs|hs
 ·obtain ⟨its,rv,pl,hz⟩:=I.list hs
  have hlt:p<s.heap.objs.size:=by obtain ⟨_,e,_⟩:=pl.isList;exact j7 e
  refine sF pl.isList ?_
  have W:=Walks.list (prog:=X.prog) (w:=X.w) (A:=A) hh s.heap.objs.size p (v8 hlt) its.toArray
  refine h its s.heap.objs.size [s.heap.objs.size,p] [s.heap.objs.size] (fun i h=>h.IsListIter s.heap.objs.size p i/\h.IsList p its.toArray) _ rv (by simpa using W) ⟨⟨_,t7 _ rfl,rfl,rfl⟩,pl.isList.push _⟩ (fun b hb=>?_) (keep _)
  rw[G3]
  rcases List.mem_cons.mp hb with rfl|hb
  ·exact bG _
  ·rw[List.mem_singleton.mp hb];exact R9 hlt
 ·obtain ⟨its,rv,pl,hz⟩:=I.tuple hs
  have pl':s.heap.IsTuple p its.toArray:=pl
  have hlt:p<s.heap.objs.size:=pl.lt
  refine aR pl' ?_
  have W:=Walks.tuple (prog:=X.prog) (w:=X.w) (A:=A) hh s.heap.objs.size p (v8 hlt) its.toArray
  refine h its s.heap.objs.size [s.heap.objs.size,p] [s.heap.objs.size] (fun i h=>h.IsTupleIter s.heap.objs.size p i/\h.IsTuple p its.toArray) _ rv (by simpa using W) ⟨⟨_,t7 _ rfl,rfl,rfl⟩,pl'.push _⟩ (fun b hb=>?_) (keep _)
  rw[G3]
  rcases List.mem_cons.mp hb with rfl|hb
  ·exact bG _
  ·rw[List.mem_singleton.mp hb];exact R9 hlt
noncomputable def Jg (ns:List Int) (i:Nat):Int:=(ns[i]?).getD 0
theorem pO (ns:List Int):∀k,preSum (Jg ns) k=(ns.take k).sum
 | 0=>by simp[preSum]
 | k+1=>by
  rw[preSum,pO ns k,D2,List.sum_append]
  unfold Jg
  cases ns[k]? <;> simp
theorem Cb {ns:List Int}{its:List b9} (r:M9 (ns.map V.int) its) {i:Nat}{v:b9} (e:its[i]?=some v):∃t,v=.int (Jg ns i) t:=by
 have hl:=r.length
 rw[d6] at hl
 have hi:i<ns.length:=by rw[hl];exact (List.getElem?_eq_some_iff.mp e).1
 obtain ⟨u,hu,ru⟩:=r.get (i:=i) (x:=.int ns[i]) (by rw[A4,f6 hi];rfl)
 rw[e] at hu;cases hu
 obtain ⟨t,rfl⟩:=ru
 exact ⟨t,by unfold Jg;rw[f6 hi];rfl⟩
theorem cu (hc:X.calm=true):cx X (.builtin "sum") (fun xs H Q=>∃(p:Addr) (ns:List Int),xs=[.ref p]/\(eV X.K H p (ns.map V.int) ∨ dH X.K H p (ns.map V.int))/\Q (.int ns.sum) H):=by
 intro pins s σ H xs us Q I r h
 obtain ⟨p,ns,rfl,hs,q⟩:=h
 obtain ⟨u,rfl,ru⟩:=lg r
 cases ru
 refine call_sum_walkG (pC (A:=X.A.in1) I (I.ok.hd hc) hs fun its it fp wr St h2 rv W st hfp keep=>?_)
 refine ⟨it,fp,wr,its.length,_,St,Jg ns,rfl,W,st,hfp,fun i v e=>Cb rv e,fun h' tk t' hk=>?_⟩
 have e:preSum (Jg ns) its.length=ns.sum:=by
  rw[pO,<- rv.length,d6,D4]
 rw[e]
 exact ⟨.int ns.sum,H,I.kept (keep h' hk),⟨_,rfl⟩,q⟩
noncomputable def mC:V->Bool
 | .bl b=>b
 | .int i=>i != 0
 | .non=>false
 | _=>true
noncomputable def rP:V->Bool
 | .bl _=>true
 | .int _=>true
 | .non=>true
 | _=>false
theorem EM {E:b9->d7->Prop}{x:V}{v:b9}{s:d7}{Q:Bool->d7->Prop} (r:Q4 x v) (ok:rP x=true) (h:Q (mC x) s):m6 (t8 X.prog X.w) A (truthy v) Q E s:=by
 cases x with
 | bl b=>cases r;exact N7 h
 | int i=>obtain ⟨t,rfl⟩:=r;exact PyProof.Rows.truthy_int h
 | non=>cases r;exact PyProof.Rows.truthy_none h
 | _=>exact absurd (show false=true from ok) A0
noncomputable def qV (d:Bool) (xs:List V) (i:Nat):Bool:=((xs[i]?).map mC).getD d
theorem FG (xs:List V):(R0 xs.length).all (qV true xs)=xs.all mC:=by
 rw[aI,iT,iT]
 constructor
 ·intro h b hb
  obtain ⟨i,hi,e⟩:=BL hb
  have:=h i (List.mem_range.mpr hi)
  unfold qV at this
  rw[f6 hi,e] at this
  exact this
 ·intro h i hi
  have hi':=List.mem_range.mp hi
  unfold qV
  rw[f6 hi']
  exact h _ (K0 hi')
theorem FE (xs:List V):(R0 xs.length).any (qV false xs)=xs.any mC:=by
 rw[aI,FS,FS]
 constructor
 ·rintro ⟨i,hi,e⟩
  have hi':=List.mem_range.mp hi
  unfold qV at e
  rw[f6 hi'] at e
  exact ⟨_,K0 hi',e⟩
 ·rintro ⟨b,hb,e⟩
  obtain ⟨i,hi,rfl⟩:=BL hb
  refine ⟨i,List.mem_range.mpr hi,?_⟩
  unfold qV
  rw[f6 hi]
  exact e
theorem nF {its:List b9} (d:Bool) (rv:M9 xs its) (ok:xs.all rP=true):TruthOf X.prog X.w A (fun i v=>its[i]?=some v) (qV d xs):=by
 intro i v s Q E e hQ
 have hi:i<xs.length:=by rw[rv.length];exact (List.getElem?_eq_some_iff.mp e).1
 obtain ⟨u,hu,ru⟩:=rv.get (i:=i) (x:=xs[i]) (by rw[f6 hi])
 rw[e] at hu;cases hu
 refine EM (X:=X) ru (List.all_eq_true.mp ok _ (K0 hi)) ?_
 unfold qV at hQ
 rw[f6 hi] at hQ
 exact hQ
theorem cw (hc:X.calm=true):cx X (.builtin "all") (fun xs H Q=>∃(p:Addr) (ys:List V),xs=[.ref p]/\(eV X.K H p ys ∨ dH X.K H p ys)/\ys.all rP=true/\Q (.bl (ys.all mC)) H):=by
 intro pins s σ H xs us Q I r h
 obtain ⟨p,ys,rfl,hs,ok,q⟩:=h
 obtain ⟨u,rfl,ru⟩:=lg r
 cases ru
 refine call_all_walk (pC (A:=X.A.in1) I (I.ok.hd hc) hs fun its it fp wr St h2 rv W st hfp keep=>?_)
 refine ⟨it,fp,wr,its.length,_,St,qV true ys,rfl,W,st,nF true rv ok,fun h' tk hk=>?_⟩
 rw[<- rv.length,FG]
 exact ⟨.bl _,H,I.kept (keep h' hk),rfl,q⟩
theorem lR (hc:X.calm=true):cx X (.builtin "any") (fun xs H Q=>∃(p:Addr) (ys:List V),xs=[.ref p]/\(eV X.K H p ys ∨ dH X.K H p ys)/\ys.all rP=true/\Q (.bl (ys.any mC)) H):=by
 intro pins s σ H xs us Q I r h
 obtain ⟨p,ys,rfl,hs,ok,q⟩:=h
 obtain ⟨u,rfl,ru⟩:=lg r
 cases ru
 refine call_any_walk (pC (A:=X.A.in1) I (I.ok.hd hc) hs fun its it fp wr St h2 rv W st hfp keep=>?_)
 refine ⟨it,fp,wr,its.length,_,St,qV false ys,rfl,W,st,nF false rv ok,fun h' tk hk=>?_⟩
 rw[<- rv.length,FE]
 exact ⟨.bl _,H,I.kept (keep h' hk),rfl,q⟩
end
section
variable {prog:j6}{w:r9}{A:A5}{E:b9->d7->Prop}{s:d7}
theorem pW {it t:Addr}{i:Nat}{its:Array b9}{x:b9}{Q:b9->d7->Prop} (hit:s.heap.IsTupleIter it t i) (ht:s.heap.IsTuple t its) (hx:its[i]?=some x)
  (hQ:∀h',h'.IsTupleIter it t (i+1)->K3 it s.heap h'->Q x { s with heap:=h' }):m6 (t8 prog w) A (G6 (.ref it)) Q E s:=by
 obtain ⟨o,ho,hc,hd⟩:=id hit
 obtain ⟨ol,hol,_,nl,hdl⟩:=ht
 unfold G6
 refine b8 (F0 (name:=U6 "__next__") hit.typeIs bI
  (E8 bI hit.typeIs wZ ?_ (ve _)))
 show m6 _ _ (qD (.ref it) 0 >>= _) _ _ s
 refine b8 (E5 ho hd (x:=.ref t) rfl ?_)
 show m6 _ _ (if (y6 t == E9)=true then _ else _) _ _ s
 rw[if_neg (show ¬ ((y6 t == E9)=true) from A0)]
 show m6 _ _ (qD (.ref it) 1 >>= _) _ _ s
 refine b8 (E5 ho hd (x:=.int i 0) rfl ?_)
 show m6 _ _ (seqItems? (.ref t) >>= _) _ _ s
 refine b8 (X9 hol hdl ?_)
 simp only[S0,hx]
 refine b8 (az ho hd (by simp) (d9 ⟨x,rfl,d9 (hQ _ ?_ (U4 ..))⟩))
 exact ⟨_,X6 _ ho (aW (Q2 hd _)),(oQ ..).trans hc,by
  rw[Q2 hd];simp[X3]⟩
end
section
variable {prog:j6}{w:r9}{A:A5}{E:b9->d7->Prop}{s:d7}
variable {it t:Addr}{i:Nat}{its:Array b9}{Q:b9->d7->Prop}
theorem rR (hh:A.handled=none) (hit:s.heap.IsTupleIter it t i) (ht:s.heap.IsTuple t its) (hx:its[i]?=none)
  (hE:∀h' e,kO it s.heap h'->(∃o,h'.get? e=some o/\o.cls=.type "StopIteration")->E (.ref e) { s with heap:=h' }):m6 (t8 prog w) A (G6 (.ref it)) Q E s:=by
 obtain ⟨o,ho,hc,hd⟩:=id hit
 obtain ⟨ol,hol,_,nl,hdl⟩:=ht
 unfold G6
 refine b8 (F0 (name:=U6 "__next__") hit.typeIs bI
  (E8 bI hit.typeIs wZ ?_ (ve _)))
 show m6 _ _ (qD (.ref it) 0 >>= _) _ _ s
 refine b8 (E5 ho hd (x:=.ref t) rfl ?_)
 show m6 _ _ (if (y6 t == E9)=true then _ else _) _ _ s
 rw[if_neg (show ¬ ((y6 t == E9)=true) from A0)]
 show m6 _ _ (qD (.ref it) 1 >>= _) _ _ s
 refine b8 (E5 ho hd (x:=.int i 0) rfl ?_)
 show m6 _ _ (seqItems? (.ref t) >>= _) _ _ s
 refine b8 (X9 hol hdl ?_)
 simp only[S0,hx]
 refine b8 (P1 (b8 (az ho hd (by simp) ?_)))
 show m6 _ _ (Eu (.type "StopIteration") [] >>= _) _ _ _
 refine b8 ?_
 simp only[Eu,Gs]
 refine b8 (E4 ?_ (by size_fits))
 refine b8 (m:=dX _ _) (wO (a:=E9) (by first|rfl | (simp only[dX];rfl)) ?_)
 refine E4 ?_ (by size_fits)
 simp only[raiseNew]
 refine b8 (BB ?_)
 first|rw[show A.in1.handled=none from hh]|rw[hh]
 exact b8 (d9 (Gp (hE _ _ (((U4 ..).extBut.push _).push _) ⟨_,t7 _ rfl,rfl⟩)))
noncomputable def Eo:Bool->m9->Hp->Addr->List V->Prop
 | false=>dH
 | true=>eV
noncomputable def uV:Bool->Heap->Addr->Array b9->Prop
 | false=>LA
 | true=>Heap.IsList
noncomputable def xf:Bool->Heap->Addr->Addr->Nat->Prop
 | false=>Heap.IsTupleIter
 | true=>Heap.IsListIter
noncomputable def itN:Bool->String
 | false=>"tuple_iterator"
 | true=>"list_iterator"
noncomputable abbrev JT (p:Bool) (t:Addr):Obj:={ cls:=.type (itN p),data:=.fields #[.ref t,.int 0 0] }
variable {h:Heap}{a:Addr}
theorem _root_.PySem.Heap.IsList.at' {h':Heap}{items:Array b9} (x:h.IsList a items) (e:∀o,h.get? a=some o->h'.get? a=some o):h'.IsList a items:=let ⟨o,ho,r⟩:=x;⟨o,e _ ho,r⟩
theorem uV.at {p:Bool}{h h':Heap}{a:Addr}{xs:Array b9} (x:uV p h a xs) (e:∀o,h.get? a=some o->h'.get? a=some o):uV p h' a xs:=by
 cases p
 ·exact Heap.IsTuple.at x e
 ·exact Heap.IsList.at' x e
variable {p:Bool}{xs:Array b9}
theorem uV.lt (x:uV p h a xs):a<h.objs.size:=by
 cases p <;> exact let ⟨_,ho,_⟩:=x;j7 ho
theorem xf.at {p:Bool}{h h':Heap}{a t:Addr}{k:Nat} (x:xf p h a t k) (e:∀o,h.get? a=some o->h'.get? a=some o):xf p h' a t k:=by
 cases p
 ·exact Heap.IsTupleIter.at x e
 ·exact Heap.IsListIter.at x e
variable {k:Nat}
theorem xf.ob (x:xf p h a t k):∃o,h.get? a=some o/\o.data=.fields #[.ref t,.int k 0]:=by
 cases p <;> exact let ⟨o,ho,_,hd⟩:=x;⟨o,ho,hd⟩
theorem xf.new (e:h.get? a=some (JT p t)):xf p h a t 0:=by
 cases p <;> exact ⟨_,e,rfl,rfl⟩
theorem pX {x:b9}(hit:xf p s.heap it t i) (ht:uV p s.heap t its) (hx:its[i]?=some x)
  (hQ:∀h',xf p h' it t (i+1)->K3 it s.heap h'->Q x { s with heap:=h' }):m6 (t8 prog w) A (G6 (.ref it)) Q E s:=by
 cases p
 ·exact pW hit ht hx hQ
 ·exact wpAny_nextOf_list_item hit ht hx hQ
theorem AK (hh:A.handled=none) (hit:xf p s.heap it t i) (ht:uV p s.heap t its) (hx:its[i]?=none)
  (hE:∀h' e,kO it s.heap h'->(∃o,h'.get? e=some o/\o.cls=.type "StopIteration")->E (.ref e) { s with heap:=h' }):m6 (t8 prog w) A (G6 (.ref it)) Q E s:=by
 cases p
 ·exact rR hh hit ht hx hE
 ·exact wpAny_nextOf_list_end hh hit ht hx hE
theorem Gg (ht:uV p s.heap t xs) (h:Q (.ref s.heap.objs.size) { s with heap:=s.heap.push (JT p t) }):m6 (t8 prog w) A (nX (.ref t)) Q E s:=by
 cases p
 ·exact aR ht h
 ·exact sF ht h
structure Bm (p q:Bool) (h:Heap) (z TI TO i1 i2 t1 t2:Addr) (k:Nat):Prop where
 zz:An h z TI TO .none
 ti:qR h TI (.ref i1) (.ref i2)
 tO:∃a b,qR h TO a b
 it1:xf p h i1 t1 k
 it2:xf q h i2 t2 k
structure yN (z TI TO i1 i2 t1 t2:Addr):Prop where
 a1:TI≠z
 a2:TO≠z
 a3:i1≠z
 a4:i2≠z
 b1:TI≠TO
 b2:TI≠i1
 b3:TI≠i2
 c1:TO≠i1
 c2:TO≠i2
 d1:i1≠i2
 e1:t1≠z
 e2:t1≠TO
 e3:t1≠i1
 e4:t1≠i2
 f1:t2≠z
 f2:t2≠TO
 f3:t2≠i1
 f4:t2≠i2
variable {n:Nat}
theorem fP {a b:Nat} (h:a≠b):n+a≠n+b:=by lia
theorem nR {a t:Nat} (h:t<n):t≠n+a:=by lia
theorem yN.new {t1 t2:Nat} (h1:t1<n) (h2:t2<n):yN (n+4) (n+2) (n+3) n (n+1) t1 t2 where
 a1:=fP (by decide)
 a2:=fP (by decide)
 a3:=fP (n:=n) (a:=0) (by decide)
 a4:=fP (by decide)
 b1:=fP (by decide)
 b2:=fP (n:=n) (b:=0) (by decide)
 b3:=fP (by decide)
 c1:=fP (n:=n) (b:=0) (by decide)
 c2:=fP (by decide)
 d1:=fP (n:=n) (a:=0) (by decide)
 e1:=nR h1
 e2:=nR h1
 e3:=nR (a:=0) h1
 e4:=nR h1
 f1:=nR h2
 f2:=nR h2
 f3:=nR (a:=0) h2
 f4:=nR h2
variable {q:Bool}{t1 t2:Addr}
theorem Ap {z TI TO i1 i2:Addr}{ys:Array b9}{x y:b9}{Q:Option b9->d7->Prop} (D:yN z TI TO i1 i2 t1 t2) (Z:Bm p q s.heap z TI TO i1 i2 t1 t2 k) (hl1:uV p s.heap t1 xs) (hl2:uV q s.heap t2 ys)
  (hx:xs[k]?=some x) (hy:ys[k]?=some y)
  (hQ:∀h',An h' z TI TO (X3 s.heap.objs.size)->qR h' TO x y->xf p h' i1 t1 (k+1)->xf q h' i2 t2 (k+1)->qR h' s.heap.objs.size x y->h'.objs.size=s.heap.objs.size+1 ->
   (∀c o,c ∉ [z,TO,i1,i2]->s.heap.get? c=some o->h'.get? c=some o)->Q (some (.ref s.heap.objs.size)) { s with heap:=h' }):
  m6 (t8 prog w) A (bQ (.ref z)) Q E s:=by
 obtain ⟨hz,hTI,⟨a,b,hTO⟩,h1,h2⟩:=Z
 have hT:s.TypeIs (.ref z) "zip":=⟨_,hz,rfl⟩
 unfold bQ
 refine b8 (V8 (F0 (name:=U6 "__next__") hT kQ (E8 kQ hT JD ?_ (Jc _))))
 show m6 _ _ (qD (.ref z) 2 >>= _) _ _ _
 refine b8 (E5 hz rfl (x:=.bool false) rfl ?_)
 show m6 _ _ (qD (.ref z) 3 >>= _) _ _ _
 refine b8 (E5 hz rfl (x:=.ref TI) rfl (b8 (X9 hTI rfl ?_)))
 show m6 _ _ (K8 (.ref z) >>= _) _ _ _
 refine b8 ?_
 unfold K8
 refine b8 (E5 hz rfl (x:=.none) rfl (d9 ?_))
 simp only[if_true]
 refine b8 (P1 (b8 (E5 hz rfl (x:=.ref TO) rfl (b8 (F5 hz (by simp) fun g1 z1 s1=>?_)))))
 replace z1:An g1 z TI TO .ellipsis:=z1
 refine b8 ?_
 simp only[qG,Gx,Y0,Z9]
 refine b8 (b8 (qA ?_))
 show m6 _ _ (G6 (.ref i1) >>= _) _ _ _
 refine b8 (pX (h1.at fun o e=>s1.extBut _ o D.a3 e) (hl1.at fun o e=>s1.extBut _ o D.e1 e) hx fun g2 j1 s2=>d9 ?_)
 have o2:qR g2 TO a b:=s2.extBut _ _ D.c1 (s1.extBut _ _ D.a2 hTO)
 refine b8 (X9 o2 rfl (b8 (Gn o2 fun g3 o3 s3=>?_)))
 replace o3:qR g3 TO x b:=o3
 refine b8 (wQ (d9 (b8 (b8 (qA ?_)))))
 show m6 _ _ (G6 (.ref i2) >>= _) _ _ _
 refine b8 (pX (h2.at fun o e=>s3.extBut _ o D.c2.symm (s2.extBut _ o D.d1.symm (s1.extBut _ o D.a4 e))) (hl2.at fun o e=>s3.extBut _ o D.f2 (s2.extBut _ o D.f3 (s1.extBut _ o D.f1 e))) hy fun g4 j2 s4=>d9 ?_)
 have o4:qR g4 TO x b:=s4.extBut _ _ D.c2 o3
 refine b8 (X9 o4 rfl (b8 (Gn o4 fun g5 o5 s5=>?_)))
 replace o5:qR g5 TO x y:=o5
 refine b8 (wQ (d9 (d9 ?_)))
 refine b8 (X9 o5 rfl (b8 (nU ?_)))
 have hsz:g5.objs.size=s.heap.objs.size:=by rw[s5.1,s4.1,s3.1,s2.1,s1.1]
 have z5:An g5 z TI TO .ellipsis:=s5.extBut _ _ D.a2.symm (s4.extBut _ _ D.a4.symm (s3.extBut _ _ D.a2.symm (s2.extBut _ _ D.a3.symm z1)))
 have k5:∀c o,c ∉ [z,TO,i1,i2]->s.heap.get? c=some o->g5.get? c=some o:=fun c o hc e=>by
  simp only[B6,C3,or_false,not_or] at hc
  exact s5.extBut _ _ hc.2.1 (s4.extBut _ _ hc.2.2.2 (s3.extBut _ _ hc.2.1 (s2.extBut _ _ hc.2.2.1 (s1.extBut _ _ hc.1 e))))
 have m1:xf p g5 i1 t1 (k+1):=j1.at fun o e=>s5.extBut _ o D.c1.symm (s4.extBut _ o D.d1 (s3.extBut _ o D.c1.symm e))
 have m2:xf q g5 i2 t2 (k+1):=j2.at fun o e=>s5.extBut _ o D.c2.symm e
 show m6 _ _ (T5 (.ref z) (.ref g5.objs.size) >>= _) _ _ _
 refine b8 ?_
 unfold T5
 have z6:An (g5.push { cls:=.type "tuple",data:=.seq #[x,y] }) z TI TO .ellipsis:=f9 _ z5
 refine b8 (F5 z6 (by simp) fun g7 z7 s7=>?_)
 replace z7:An g7 z TI TO (X3 g5.objs.size):=z7
 refine F5 z7 (by simp) fun g8 z8 s8=>?_
 replace z8:An g8 z TI TO (X3 g5.objs.size):=z8
 have up:∀c o,c≠z->g5.get? c=some o->g8.get? c=some o:=fun c o hc e=>s8.extBut _ _ hc (s7.extBut _ _ hc (f9 _ e))
 have new8:qR g8 g5.objs.size x y:=s8.extBut _ _ (F6 (j7 z5)) (s7.extBut _ _ (F6 (j7 z5)) (t7 _ rfl))
 have size8:g8.objs.size=g5.objs.size+1:=by rw[s8.1,s7.1,G3]
 rw[hsz] at z8 new8 size8
 refine d9 ⟨_,rfl,d9 ?_⟩
 show Q (some (.ref g5.objs.size)) _
 rw[hsz]
 exact hQ g8 z8 (up _ _ D.a2 o5) (m1.at fun o e=>up _ o D.a3 e) (m2.at fun o e=>up _ o D.a4 e) new8 size8 fun c o hc e=>up c o (fun q=>hc (by simp[q])) (k5 c o hc e)
theorem BX {z TI TO i1 i2:Addr}{Q:Option b9->d7->Prop} (hh:A.handled=none) (D:yN z TI TO i1 i2 t1 t2) (Z:Bm p q s.heap z TI TO i1 i2 t1 t2 k) (hl1:uV p s.heap t1 xs)
  (hx:xs[k]?=none) (hQ:∀h',(∀c o,c ∉ [z,TO,i1,i2]->s.heap.get? c=some o->h'.get? c=some o)->Q none { s with heap:=h' }):m6 (t8 prog w) A (bQ (.ref z)) Q E s:=by
 obtain ⟨hz,hTI,⟨a,b,hTO⟩,h1,h2⟩:=Z
 have hT:s.TypeIs (.ref z) "zip":=⟨_,hz,rfl⟩
 unfold bQ
 refine b8 (V8 (F0 (name:=U6 "__next__") hT kQ (E8 kQ hT JD ?_ (Jc _))))
 show m6 _ _ (qD (.ref z) 2 >>= _) _ _ _
 refine b8 (E5 hz rfl (x:=.bool false) rfl ?_)
 show m6 _ _ (qD (.ref z) 3 >>= _) _ _ _
 refine b8 (E5 hz rfl (x:=.ref TI) rfl (b8 (X9 hTI rfl ?_)))
 show m6 _ _ (K8 (.ref z) >>= _) _ _ _
 refine b8 ?_
 unfold K8
 refine b8 (E5 hz rfl (x:=.none) rfl (d9 ?_))
 simp only[if_true]
 refine b8 (P1 (b8 (E5 hz rfl (x:=.ref TO) rfl (b8 (F5 hz (by simp) fun g1 z1 s1=>?_)))))
 replace z1:An g1 z TI TO .ellipsis:=z1
 refine b8 ?_
 simp only[qG,Gx,Y0,Z9]
 refine b8 (b8 (qA ?_))
 show m6 _ _ (G6 (.ref i1) >>= _) _ _ _
 refine b8 (AK hh (h1.at fun o e=>s1.extBut _ o D.a3 e) (hl1.at fun o e=>s1.extBut _ o D.e1 e) hx fun g2 e s2 he=>?_)
 obtain ⟨oe,hoe,hce⟩:=he
 have z2:An g2 z TI TO .ellipsis:=s2 _ _ D.a3.symm z1
 have hez:e≠z:=fun q=>by subst q;rw[z2] at hoe;cases hoe;simp at hce
 refine F5 z2 (by simp) fun g3 _ s3=>?_
 refine b8 (aA (T:="StopIteration") (b:=true) ⟨oe,s3.extBut _ _ hez hoe,hce⟩ nY (d9 (hQ g3 fun c o hc q=>?_)))
 simp only[B6,C3,or_false,not_or] at hc
 exact s3.extBut _ _ hc.1 (s2 _ _ hc.2.2.1 (s1.extBut _ _ hc.1 q))
noncomputable abbrev JG (t:Addr):Obj:={ cls:=.type "tuple_iterator",data:=.fields #[.ref t,.int 0 0] }
noncomputable abbrev tpr (a b:b9):Obj:={ cls:=.type "tuple",data:=.seq #[a,b] }
noncomputable abbrev zob (a b:Addr):Obj:={ cls:=.type "zip",data:=.fields #[.none,.bool false,.bool false,.ref a,.ref b] }
noncomputable abbrev FT (p q:Bool) (h:Heap) (t1 t2:Addr):Heap:=((((h.push (JT p t1)).push (JT q t2)).push (tpr (.ref h.objs.size) (.ref (h.objs.size+1)))).push (tpr .none .none)).push (zob (h.objs.size+2) (h.objs.size+3))
theorem BW (p q:Bool) (t1 t2:Addr) (xs ys:Array b9):
  Eh (bD.«zip.__new__» ⟨[.type "zip",.ref t1,.ref t2],[]⟩) (fun _ R s=>uV p s.heap t1 xs/\uV q s.heap t2 ys/\R (.ok (.ret (.ref (s.heap.objs.size+4)))) { s with heap:=FT p q s.heap t1 t2 }):=
 .of_wp fun prog w A R s h=>by
  obtain ⟨hp,g,d,tk,os⟩:=s;obtain ⟨hl1,hl2,h⟩:=h
  have hsub:=sub_zip
  have hL1:uV p (yR ⟨hp,g,d,tk,os⟩) t1 xs:=hl1
  have hL2:uV q (yR ⟨hp.push (JT p t1),g,d,tk,os⟩) t2 ys:=hl2.at fun o e=>f9 _ e
  wp_walk using Gg hL1,Gg hL2
  simp only[G3]
  exact ⟨_,rfl,h⟩
theorem Bf {ys:Array b9}(hl1:uV p s.heap t1 xs) (hl2:uV q s.heap t2 ys)
  (h:∀h',Bm p q h' (s.heap.objs.size+4) (s.heap.objs.size+2) (s.heap.objs.size+3) s.heap.objs.size (s.heap.objs.size+1) t1 t2 0->(∀c o,s.heap.get? c=some o->h'.get? c=some o)->h'.objs.size=s.heap.objs.size+5 ->
   Q (.ref (s.heap.objs.size+4)) { s with heap:=h' }):m6 (t8 prog w) A (call (.type "zip") [.ref t1,.ref t2]) Q E s:=by
 refine callType_new F.called_zip (by decide) (F.typeCall_zip_2 _ _) (F.newCall_zip_2 _ _) (fun obj=>F.args_object_init_3 obj _ _) F.entry_zip_new (BW p q t1 t2 xs ys) ⟨hl1,hl2,?_⟩
 have up:∀{b:Addr}{o:Obj} (h0:Heap) (x:Obj),h0.get? b=some o->(h0.push x).get? b=some o:=fun _ _ e=>f9 _ e
 have here:∀(h0:Heap) (x:Obj) (n:Nat),x.isFreed=false->h0.objs.size=n->(h0.push x).get? n=some x:=fun h0 x n hf e=>by subst e;exact t7 _ hf
 have Z:Bm p q (FT p q s.heap t1 t2) (s.heap.objs.size+4) (s.heap.objs.size+2) (s.heap.objs.size+3) s.heap.objs.size (s.heap.objs.size+1) t1 t2 0 :=
  ⟨here _ _ _ rfl (by simp only[G3]),up _ _ (up _ _ (here _ _ _ rfl (by simp only[G3]))),⟨_,_,up _ _ (here _ _ _ rfl (by simp only[G3]))⟩,
   .new (up _ _ (up _ _ (up _ _ (up _ _ (here _ _ _ rfl rfl))))),.new (up _ _ (up _ _ (up _ _ (here _ _ _ rfl (by simp only[G3])))))⟩
 exact ⟨⟨_,Z.zz,rfl⟩,h _ Z (fun c o e=>up _ _ (up _ _ (up _ _ (up _ _ (up _ _ e))))) (by simp only[G3])⟩
end
section
variable {X:Cx}{pins:List (Addr × Obj)}{σ:St}{H:Hp}{s:d7}
theorem E6.turnedL {h':Heap}{t':Nat}{ch:List Addr} (I:E6 X pins σ H s) (k:∀b o,b ∉ ch->s.heap.get? b=some o->h'.get? b=some o) (hf:∀b∈ch,oj X pins H b):E6 X pins σ H { s with heap:=h',toks:=t' }:=by
 have nit:∀b u,H b=some u->b ∉ ch:=fun b u e z=>by rw[(hf b z).1] at e;cases e
 refine I.step (g':=s.gens) (d':=s.drawn) (ch:=ch) (fun b hb=>⟨(hf b hb).2.2.2.1,(hf b hb).2.1,(hf b hb).2.2.2.2.1,(hf b hb).2.2.2.2.2⟩) (fun b o _ _ hc e _=>k b o hc e) (fun b o _ _ hc e _=>⟨o.slots,k b o hc e⟩) (fun _ _ _ _ n=>n)
  (fun b o hc e=>⟨o,k b o hc e⟩) (fun _ _ e=>e) (fun _ _ _ e=>e) (fun b ps e=>⟨#[],by rw[e];simp⟩) (fun m hm=>?_) (fun b u e=>?_) I.bare
 ·obtain ⟨o,es,ep,ho,r⟩:=hm
  exact ⟨o,es,ep,k _ o (fun z=>(hf _ z).2.1 rfl) ho,r⟩
 ·refine (I.hok b u e).stay (fun c v hc q=>k c v ?_ q) (fun _ q=>q) fun _ _ q=>q
  rcases hc with z|z
  ·rw[z];exact nit b u e
  ·exact nit c _ z
variable {p:Bool}{a:Addr}{xs:List V}
theorem E6.sqB (I:E6 X pins σ H s) (h:Eo p X.K H a xs):∃its:List b9,M9 xs its/\uV p s.heap a its.toArray:=by
 cases p
 ·exact let ⟨its,r,e,_⟩:=I.tuple h;⟨its,r,e⟩
 ·exact let ⟨its,r,e,_⟩:=I.list h;⟨its,r,e.isList⟩
theorem E6.sqB_inj {ys:List V} (I:E6 X pins σ H s) (h:Eo p X.K H a xs) (h':Eo p X.K H a ys):xs=ys:=by
 cases p
 ·exact I.tuple_inj h h'
 ·exact I.list_inj h h'
noncomputable def ItzB (p q:Bool) (K:m9) (a b:Addr):It :=
 ⟨fun i H=>∃xs ys x y,Eo p K H a xs/\Eo q K H b ys/\xs[i]?=some x/\ys[i]?=some y,fun i H v H'=>∃r x y,H r=none/\v=.ref r/\H'=n5 H r (.tup [x,y])/\(∀xs,Eo p K H a xs->xs[i]?=some x)/\∀ys,Eo q K H b ys->ys[i]?=some y,
  fun i H=>∃xs,Eo p K H a xs/\xs.length<=i⟩
variable {es:List Expr}{kk:Nat}
theorem mB {q:Bool}{P:j6}{w:r9}{K:m9}{pos:Pos}{b z TI TO i1 i2:Addr} (D:yN z TI TO i1 i2 a b):
  uG P w K (.Tuple es kk pos) (ItzB p q K a b) [z,TI,TO,i1,i2] z (fun i h=>Bm p q h z TI TO i1 i2 a b i) where
 mem:=by simp
 obj:=fun i h st c hc=>by
  obtain ⟨hz,hTI,⟨_,_,hTO⟩,h1,h2⟩:=st
  obtain ⟨_,h1,d1⟩:=h1.ob
  obtain ⟨_,h2,d2⟩:=h2.ob
  simp only[B6,C3,or_false] at hc
  rcases hc with rfl|rfl|rfl|rfl|rfl
  ·exact ⟨_,hz,fun v q=>by cases q⟩
  ·exact ⟨_,hTI,fun v q=>by cases q⟩
  ·exact ⟨_,hTO,fun v q=>by cases q⟩
  ·exact ⟨_,h1,fun v q=>by rw[d1] at q;cases q⟩
  ·exact ⟨_,h2,fun v q=>by rw[d2] at q;cases q⟩
 keep:=fun i h h' st k=>by
  obtain ⟨hz,hTI,⟨_,_,hTO⟩,h1,h2⟩:=st
  exact ⟨k _ (by simp) _ hz,k _ (by simp) _ hTI,⟨_,_,k _ (by simp) _ hTO⟩,h1.at fun o e=>k _ (by simp) o e,h2.at fun o e=>k _ (by simp) o e⟩
 item:=by
  intro X hP hw hK hc i pins s σ H E I hf st hg
  subst hP hw hK
  obtain ⟨xs,ys,x,y,ha,hb,hx,hy⟩:=hg
  obtain ⟨its,r1,p1⟩:=I.sqB ha
  obtain ⟨its2,r2,p2⟩:=I.sqB hb
  obtain ⟨u,hu,ru⟩:=r1.get hx
  obtain ⟨v,hv,rv⟩:=r2.get hy
  refine Ap D st p1 p2 (x:=u) (y:=v) (by simpa using hu) (by simpa using hv) fun h' z1 o1 j1 j2 new sz keep=>?_
  refine ⟨_,rfl,wpAny_letOwnedTupleGo_zip (s:={ s with heap:=h' }) z1 fun h2 z2 sb=>?_⟩
  have hn:H s.heap.objs.size=none:=I.hok.fresh (i8 _)
  have zlt:z<s.heap.objs.size:=j7 st.zz
  have k2:∀c o,c ∉ [z,TI,TO,i1,i2]->s.heap.get? c=some o->h2.get? c=some o:=fun c o hc e=>by
   simp only[B6,C3,or_false,not_or] at hc
   exact sb.extBut _ _ hc.1 (keep c o (by simp only[B6,C3,or_false,not_or];exact ⟨hc.1,hc.2.2.1,hc.2.2.2.1,hc.2.2.2.2⟩) e)
  have e0:h2.get? s.heap.objs.size=some { cls:=.type "tuple",data:=.seq #[u,v] }:=sb.extBut _ _ (F6 zlt) new
  have pne:∀c o,s.heap.get? c=some o->c≠s.heap.objs.size:=fun c o e=>v8 (j7 e)
  have nit:∀c u,H c=some u->c ∉ [z,TI,TO,i1,i2]:=fun c u e q=>by rw[(hf c q).1] at e;cases e
  have hok:cV X.prog X.w (n5 H s.heap.objs.size (.tup [x,y])) h2:=fun c ob e=>by
   by_cases hq:c=s.heap.objs.size
   ·subst hq
    rw[f7] at e;cases e
    exact ⟨by show 2<=i6;decide,[u,v],.cons ru (.cons rv .nil),⟨_,e0,rfl,_,rfl⟩⟩
   ·rw[C0 hq] at e
    refine (I.hok c ob e).stay (fun d w' hd q=>k2 d w' ?_ q) (fun d q=>by rw[C0 (v5 q hn)];exact q) fun d xs q=>by rw[C0 (v5 q hn)];exact q
    rcases hd with rfl|hd
    ·exact nit d ob e
    ·exact nit d _ hd
  have I2:E6 X pins σ (n5 H s.heap.objs.size (.tup [x,y])) { s with heap:=h2 }:=by
   refine I.step (g':=s.gens) (d':=s.drawn) (t':=s.toks) (ch:=[z,TI,TO,i1,i2]) (fun c hc=>⟨(hf c hc).2.2.2.1,(hf c hc).2.1,(hf c hc).2.2.2.2.1,(hf c hc).2.2.2.2.2⟩) (fun c o _ _ hc e _=>k2 c o hc e) (fun c o _ _ hc e _=>⟨o.slots,k2 c o hc e⟩)
    (fun c o _ e n=>by rw[C0 (pne c o e)];exact n) (fun c o hc e=>⟨o,k2 c o hc e⟩) (fun c xs e=>by rw[C0 (v5 e hn)];exact e) (fun c o u e=>by rw[C0 (v5 e hn)];exact e) (fun c ps e=>⟨#[],by rw[C0 (v5 e hn),e];simp⟩) (fun m hm=>?_) hok I.bare
   obtain ⟨o,es,ep,ho,r⟩:=hm
   exact ⟨o,es,ep,k2 _ o (fun q=>(hf _ q).2.1 rfl) ho,r⟩
  refine ⟨.ref s.heap.objs.size,_,I2,rfl,⟨_,x,y,hn,rfl,rfl,fun xs' h'=>by rw[I.sqB_inj h' ha];exact hx,fun ys' h'=>by rw[I.sqB_inj h' hb];exact hy⟩,?_,fun c hc=>?_⟩
  ·exact ⟨z2,sb.extBut _ _ D.a1 (keep _ _ (by simp only[B6,C3,or_false,not_or];exact ⟨D.a1,D.b1,D.b2,D.b3⟩) st.ti),⟨_,_,sb.extBut _ _ D.a2 o1⟩,j1.at fun o e=>sb.extBut _ o D.a3 e,j2.at fun o e=>sb.extBut _ o D.a4 e⟩
  ·have hlt:c<s.heap.objs.size:=by
    obtain ⟨hz,hTI,⟨_,_,hTO⟩,h1,h2⟩:=st
    obtain ⟨_,h1,_⟩:=h1.ob
    obtain ⟨_,h2,_⟩:=h2.ob
    simp only[B6,C3,or_false] at hc
    rcases hc with rfl|rfl|rfl|rfl|rfl
    ·exact j7 hz
    ·exact j7 hTI
    ·exact j7 hTO
    ·exact j7 h1
    ·exact j7 h2
   rw[C0 (v8 hlt)]
   exact (hf c hc).1
 done:=by
  intro X hP hw hK hc i pins s σ H E I hf st hg
  subst hP hw hK
  obtain ⟨xs,ha,hx⟩:=hg
  obtain ⟨its,r1,p1⟩:=I.sqB ha
  have hl:=r1.length
  refine BX (I.ok.hd hc) D st p1 (by simp;lia) fun h' keep=>⟨rfl,I.turnedL (t':=s.toks) (ch:=[z,TI,TO,i1,i2]) (fun c o hc e=>keep c o (fun q=>hc ?_) e) hf⟩
  simp only[B6,C3,or_false] at q ⊢
  rcases q with q|q|q|q
  ·exact .inl q
  ·exact .inr (.inr (.inl q))
  ·exact .inr (.inr (.inr (.inl q)))
  ·exact .inr (.inr (.inr (.inr q)))
 self:=fun _ _ _ _ _ st h=>LM st.zz h
theorem oU {q:Bool}{R:It->Hp->Prop}{J:It}{pt:Pos}{b:Addr}{ys:List V} (I:E6 X pins σ H s) (hx:Eo p X.K H a xs) (hy:Eo q X.K H b ys)
  (T:∀{z TI TO i1 i2:Addr},yN z TI TO i1 i2 a b->uG X.prog X.w X.K (.Tuple es kk pt) J [z,TI,TO,i1,i2] z (fun i h=>Bm p q h z TI TO i1 i2 a b i)) (h:R J H):
  m6 (t8 X.prog X.w) X.A (call (.type "zip") [.ref a,.ref b]) (fun v s1=>m6 (t8 X.prog X.w) X.A (nX v) (LI X pins σ (.Tuple es kk pt) R) X.xe s1) X.xe s:=by
 obtain ⟨its,r1,p1⟩:=I.sqB hx
 obtain ⟨its2,r2,p2⟩:=I.sqB hy
 refine Bf p1 p2 fun h' Z keep sz=>?_
 refine LM (s:={ s with heap:=h' }) Z.zz ?_
 have I2:E6 X pins σ H { s with heap:=h' }:=I.kept (t':=s.toks) keep
 refine ⟨s.heap.objs.size+4,[s.heap.objs.size+4,s.heap.objs.size+2,s.heap.objs.size+3,s.heap.objs.size,s.heap.objs.size+1],_,_,H,rfl,I2,T (yN.new p1.lt p2.lt),Z,fun c hc=>?_,h⟩
 have hge:s.heap.objs.size<=c:=by
  simp only[B6,C3,or_false] at hc
  rcases hc with rfl|rfl|rfl|rfl|rfl <;> first|exact ag _ _|exact i8 _
 exact I.fpOk hge (I.hok.fresh hge)
theorem zr {D:List V->Hp->(It->Hp->Prop)->Prop}{e1 e2:Expr}{pt p pos:Pos}{ta:TA} (hg:Gl X "zip") (hm:X.mg "zip"=none) (ha:PA X [e1,e2] ta)
  (hD:∀{pins s σ H vs R},E6 X pins σ H s->D vs H R->∃a b,vs=[V.ref a,V.ref b]/\m6 (t8 X.prog X.w) X.A (call (.type "zip") [.ref a,.ref b]) (fun v s1=>m6 (t8 X.prog X.w) X.A (nX v) (LI X pins σ (.Tuple es kk pt) R) X.xe s1) X.xe s)
  (hs:C4 [e1,e2] X.env=[(false,eval e1 X.env),(false,eval e2 X.env)]) (hs2:C4 [e2] X.env=[(false,eval e2 X.env)]):
  PI X (.Tuple es kk pt) (.Call (.Name "zip" p) [e1,e2] [] pos) (fun σ H R=>ta σ H fun vs H1=>D vs H1 R):=by
 intro pins s σ H R I h
 refine Call_ (mW I hg hm boot_zip (af (X0 (ha pos pins s σ H _ I h) fun us s1 ⟨vs,H1,I1,r1,q1⟩=>?_) (by rw[hs,hs2]) (by rw[hs2];rfl)))
 obtain ⟨a,b,rfl,q⟩:=hD I1 q1
 cases r1 with
 | cons ra rr =>
  cases rr with
  | cons rb rr =>
   cases rr
   cases ra
   cases rb
   exact q
end
section
variable {X:Cx}
noncomputable def Itz (K:m9) (a b:Addr):It :=
 ⟨fun i H=>∃xs ys x y,dH K H a xs/\dH K H b ys/\xs[i]?=some x/\ys[i]?=some y,fun i H v H'=>∃p x y,H p=none/\v=.ref p/\H'=n5 H p (.tup [x,y])/\(∀xs,dH K H a xs->xs[i]?=some x)/\∀ys,dH K H b ys->ys[i]?=some y,
  fun i H=>∃xs,dH K H a xs/\xs.length<=i⟩
noncomputable def iZip (K:m9) (ta:TA):TI:=fun σ H R=>ta σ H fun vs H1=>∃a b xs ys,vs=[.ref a,.ref b]/\dH K H1 a xs/\dH K H1 b ys/\R (Itz K a b) H1
theorem HM {e1 e2:Expr}{es:List Expr}{kk:Nat}{pt p pos:Pos}{ta:TA} (hg:Gl X "zip") (hm:X.mg "zip"=none) (ha:PA X [e1,e2] ta) (hs:C4 [e1,e2] X.env=[(false,eval e1 X.env),(false,eval e2 X.env)]:=by rfl) (hs2:C4 [e2] X.env=[(false,eval e2 X.env)]:=by rfl):
  PI X (.Tuple es kk pt) (.Call (.Name "zip" p) [e1,e2] [] pos) (iZip X.K ta):=
 zr hg hm ha (fun I ⟨_,_,_,_,e,hx,hy,h⟩=>⟨_,_,e,oU (p:=false) (q:=false) I hx hy (fun D=>mB D) h⟩) hs hs2
end
mutual
noncomputable def Dt (st:Addr) (H:Hp):B0->V->Prop
 | .none,v=>v=.non
 | .bool b,v=>v=.bl b
 | .int i,v=>v=.int i
 | .str x,v=>v=.str x
 | .tuple ds,v=>∃a xs,v=.ref a/\a≠st/\H a=some (.tup xs)/\S3 st H ds xs
 | .list ds,v=>∃a xs,v=.ref a/\a≠st/\H a=some (.lst xs)/\S3 st H ds xs
 | .dict _,v=>∃a ks,v=.ref a/\a≠st/\H a=some (.dK ks)
noncomputable def S3 (st:Addr) (H:Hp):List B0->List V->Prop
 | [],xs=>xs=[]
 | d::ds,xs=>∃x r,xs=x::r/\Dt st H d x/\S3 st H ds r
end
noncomputable def Kp (st:Addr) (H H':Hp):Prop:=∀b o,b≠st->H b=some o->H' b=some o
theorem Kp.refl (st:Addr) (H:Hp):Kp st H H:=fun _ _ _ e=>e
theorem Kp.trans {st:Addr}{H1 H2:Hp} (a:Kp st H H1) (b:Kp st H1 H2):Kp st H H2:=fun c o n e=>b c o n (a c o n e)
theorem i7.kp (a:i7 H H') (st:Addr):Kp st H H':=fun b o _ e=>a b o e
variable {o:HO}
theorem i7.new {p:Addr}(h:H p=none):i7 H (n5 H p o):=fun b u q=>by rw[C0 (v5 q h)];exact q
theorem Kp.new {st:Addr}{H:Hp}{p:Addr}{o:HO} (h:H p=none):Kp st H (n5 H p o):=(i7.new h).kp st
theorem Kp.at {st:Addr}:Kp st H (n5 H st o):=fun b u n q=>by rw[C0 n];exact q
mutual
theorem Dt.kp {st:Addr}{H H':Hp} (k:Kp st H H'):∀{d:B0}{v:V},Dt st H d v->Dt st H' d v
 | .none,_,h=>by unfold Dt at h ⊢;exact h
 | .bool _,_,h=>by unfold Dt at h ⊢;exact h
 | .int _,_,h=>by unfold Dt at h ⊢;exact h
 | .str _,_,h=>by unfold Dt at h ⊢;exact h
 | .tuple ds,_,h=>by
  unfold Dt at h ⊢
  obtain ⟨a,xs,e,n,q,r⟩:=h
  exact ⟨a,xs,e,n,k a _ n q,S3.kp k r⟩
 | .list ds,_,h=>by
  unfold Dt at h ⊢
  obtain ⟨a,xs,e,n,q,r⟩:=h
  exact ⟨a,xs,e,n,k a _ n q,S3.kp k r⟩
 | .dict kvs,_,h=>by
  unfold Dt at h ⊢
  obtain ⟨a,ks,e,n,q⟩:=h
  exact ⟨a,ks,e,n,k a _ n q⟩
theorem S3.kp {st:Addr}{H H':Hp} (k:Kp st H H'):∀{ds:List B0}{xs:List V},S3 st H ds xs->S3 st H' ds xs
 | [],_,h=>by unfold S3 at h ⊢;exact h
 | d::ds,_,h=>by
  unfold S3 at h ⊢
  obtain ⟨x,r,e,q1,q2⟩:=h
  exact ⟨x,r,e,Dt.kp k q1,S3.kp k q2⟩
end
theorem Dt.int (st:Addr) (H:Hp) (i:Int):Dt st H (.int i) (.int i):=by unfold Dt;rfl
theorem Dt.bl (st:Addr) (H:Hp) (b:Bool):Dt st H (.bool b) (.bl b):=by unfold Dt;rfl
theorem Dt.non (st:Addr) (H:Hp):Dt st H .none .non:=by unfold Dt;rfl
theorem Dt.str (st:Addr) (H:Hp) (x:Str):Dt st H (.str x) (.str x):=by unfold Dt;rfl
theorem Dt.tup {st:Addr}{H:Hp}{a:Addr}{xs:List V}{ds:List B0} (n:a≠st) (h:H a=some (.tup xs)) (r:S3 st H ds xs):Dt st H (.tuple ds) (.ref a):=by unfold Dt;exact ⟨a,xs,rfl,n,h,r⟩
theorem Dt.lst {st:Addr}{H:Hp}{a:Addr}{xs:List V}{ds:List B0} (n:a≠st) (h:H a=some (.lst xs)) (r:S3 st H ds xs):Dt st H (.list ds) (.ref a):=by unfold Dt;exact ⟨a,xs,rfl,n,h,r⟩
theorem S3.nil (st:Addr) (H:Hp):S3 st H [] []:=by unfold S3;rfl
theorem S3.cons {st:Addr}{H:Hp}{d:B0}{ds:List B0}{x:V}{xs:List V} (h:Dt st H d x) (r:S3 st H ds xs):S3 st H (d::ds) (x::xs):=by unfold S3;exact ⟨x,xs,rfl,h,r⟩
theorem S3.uncons {st:Addr}{d:B0}{ds:List B0}{xs:List V} (h:S3 st H (d::ds) xs):∃x r,xs=x::r/\Dt st H d x/\S3 st H ds r:=by unfold S3 at h;exact h
theorem S3.len {st:Addr}{H:Hp}:∀{ds:List B0}{xs:List V},S3 st H ds xs->ds.length=xs.length
 | [],_,h=>by unfold S3 at h;subst h;rfl
 | d::ds,_,h=>by
  obtain ⟨x,r,e,_,q⟩:=h.uncons
  subst e
  rw[A8,A8,S3.len q]
theorem S3.append {st:Addr}{H:Hp}:∀{ds es:List B0}{xs ys:List V},S3 st H ds xs->S3 st H es ys->S3 st H (ds++es) (xs++ys)
 | [],_,_,_,h,q=>by unfold S3 at h;subst h;exact q
 | d::ds,_,_,_,h,q=>by
  obtain ⟨x,r,e,h1,h2⟩:=h.uncons
  subst e
  exact S3.cons h1 (S3.append h2 q)
theorem S3.get {st:Addr}{H:Hp}:∀{ds:List B0}{xs:List V}{i:Nat}{x:V},S3 st H ds xs->xs[i]?=some x->∃d,ds[i]?=some d/\Dt st H d x
 | [],_,i,x,h,e=>by unfold S3 at h;subst h;simp at e
 | d::ds,_,0,x,h,e=>by
  obtain ⟨y,r,e1,h1,h2⟩:=h.uncons
  subst e1
  simp at e;subst e
  exact ⟨d,rfl,h1⟩
 | d::ds,_,i+1,x,h,e=>by
  obtain ⟨y,r,e1,h1,h2⟩:=h.uncons
  subst e1
  obtain ⟨d',e2,h3⟩:=S3.get (i:=i) (x:=x) h2 (by simpa using e)
  exact ⟨d',by simpa using e2,h3⟩
theorem S3.ints (st:Addr) (H:Hp):∀ns:List Int,S3 st H (ns.map dM) (ns.map V.int)
 | []=>S3.nil st H
 | n::ns=>S3.cons (Dt.int st H n) (S3.ints st H ns)
theorem S3.ints_eq {st:Addr}{H:Hp}:∀{ns:List Int}{xs:List V},S3 st H (ns.map dM) xs->xs=ns.map V.int
 | [],_,h=>by unfold S3 at h;exact h
 | n::ns,_,h=>by
  rw[B7] at h
  obtain ⟨x,r,e,h1,h2⟩:=h.uncons
  unfold Dt at h1
  rw[e,h1,S3.ints_eq h2,B7]
noncomputable abbrev DI (ns:List Int):B0:=.tuple (ns.map .int)
variable {ns:List Int}
theorem Dt.di {st:Addr}{v:V} (h:Dt st H (DI ns) v):∃a,v=.ref a/\a≠st/\H a=some (.tup (ns.map V.int)):=by
 unfold DI Dt at h
 obtain ⟨a,xs,e,n,q,r⟩:=h
 exact ⟨a,e,n,by rw[q,r.ints_eq]⟩
variable {a:Addr}
theorem Dt.mkI {st:Addr}(n:a≠st) (h:H a=some (.tup (ns.map V.int))):Dt st H (DI ns) (.ref a):=Dt.tup n h (S3.ints st H ns)
mutual
theorem Dt.reads {P:j6}{w:r9}{st:Addr}{H:Hp}{h:Heap} (ok:cV P w H h):∀{d:B0}{v:V}{u:b9},d.canLay0=true->Dt st H d v->Q4 v u->∃as,Reads h u d as
 | .none,_,u,_,q,r=>by unfold Dt at q;subst q;cases r;exact ⟨[],.none⟩
 | .bool b,_,u,_,q,r=>by unfold Dt at q;subst q;cases r;exact ⟨[],.bool b⟩
 | .int i,_,u,_,q,r=>by unfold Dt at q;subst q;obtain ⟨t,rfl⟩:=r;exact ⟨[],.int i t⟩
 | .str x,_,u,_,q,r=>by unfold Dt at q;subst q;obtain ⟨t,rfl⟩:=r;exact ⟨[],.str x t⟩
 | .tuple ds,_,u,cl,q,r=>by
  unfold jO at cl
  unfold Dt at q
  obtain ⟨a,xs,e,n,hq,rs⟩:=q
  subst e
  cases r
  obtain ⟨_,its,rv,o,ho,hc,m,hd⟩:=ok a _ hq
  obtain ⟨as,ra⟩:=S3.reads ok cl rs rv
  exact ⟨as,.tuple ho hc hd (by simpa using ra)⟩
 | .list ds,_,u,cl,q,r=>by
  unfold jO at cl
  unfold Dt at q
  obtain ⟨a,xs,e,n,hq,rs⟩:=q
  subst e
  cases r
  obtain ⟨_,its,m,rv,ho⟩:=ok a _ hq
  obtain ⟨as,ra⟩:=S3.reads ok cl rs rv
  exact ⟨a::as,.list ho rfl rfl (by simpa using ra)⟩
 | .dict kvs,_,u,cl,q,r=>by unfold jO at cl;cases cl
theorem S3.reads {P:j6}{w:r9}{st:Addr}{H:Hp}{h:Heap} (ok:cV P w H h):∀{ds:List B0}{xs:List V}{us:List b9},BH ds=true->S3 st H ds xs->M9 xs us->∃as,ReadsAll h us ds as
 | [],_,us,_,q,r=>by unfold S3 at q;subst q;cases r;exact ⟨[],.nil⟩
 | d::ds,_,us,cl,q,r=>by
  unfold BH at cl
  rw[A6] at cl
  obtain ⟨x,rr,e,h1,h2⟩:=q.uncons
  subst e
  cases r with
  | cons r1 r2 =>
   obtain ⟨as,ra⟩:=Dt.reads ok cl.1 h1 r1
   obtain ⟨bs,rb⟩:=S3.reads ok cl.2 h2 r2
   exact ⟨as++bs,.cons ra rb⟩
end
theorem gY {d:B0} (h:br d=true):d.canLay0=true:=by
 unfold br at h
 rw[A6] at h
 exact h.1
section
variable {X:Cx}
noncomputable def rEqD:R2:=fun x y H Q=>∃st d e,Dt st H d x/\Dt st H e y/\br d=true/\br e=true/\Q (.bl (rA d e)) H
noncomputable def rNeD:R2:=fun x y H Q=>∃st d e,Dt st H d x/\Dt st H e y/\br d=true/\br e=true/\Q (.bl (!PyData.eqv d e)) H
theorem HU (hu:X.A.units+64<bj):jC X (T8 .Eq) rEqD:=by
 intro pins s σ H x y v u Q I rx ry h
 obtain ⟨st,d,e,h1,h2,s1,s2,q⟩:=h
 obtain ⟨as,ra⟩:=h1.reads I.hok (gY s1) rx
 obtain ⟨bs,rb⟩:=h2.reads I.hok (gY s2) ry
 exact eq_dataH ra rb s1 s2 hu (O9 I q rfl)
theorem HS (hu:X.A.units+64<bj):jC X (T8 .NotEq) rNeD:=by
 intro pins s σ H x y v u Q I rx ry h
 obtain ⟨st,d,e,h1,h2,s1,s2,q⟩:=h
 obtain ⟨as,ra⟩:=h1.reads I.hok (gY s1) rx
 obtain ⟨bs,rb⟩:=h2.reads I.hok (gY s2) ry
 exact ne_dataH ra rb s1 s2 hu (O9 I q rfl)
noncomputable def GC:B0->String
 | .none=>"NoneType"
 | .bool _=>"bool"
 | .int _=>"int"
 | .str _=>"str"
 | .list _=>"list"
 | .tuple _=>"tuple"
 | .dict _=>"dict"
theorem Dt.ty {K:m9}{st:Addr}{H:Hp}{d:B0}{v:V} (h:Dt st H d v):nj K H v (.type (GC d)):=by
 cases d with
 | none=>unfold Dt at h;subst h;exact .non
 | bool b=>unfold Dt at h;subst h;exact .bl b
 | int i=>unfold Dt at h;subst h;exact .int i
 | str x=>unfold Dt at h;subst h;exact .str x
 | list ds=>unfold Dt at h;obtain ⟨a,xs,e,_,q,_⟩:=h;subst e;exact .lst q
 | tuple ds=>unfold Dt at h;obtain ⟨a,xs,e,_,q,_⟩:=h;subst e;exact .tup q
 | dict kvs=>unfold Dt at h;obtain ⟨a,ks,e,_,q⟩:=h;subst e;exact .dK q
noncomputable def zI:B0->Bool
 | .bool _=>true
 | _=>false
noncomputable def Ik:B0->Bool
 | .bool _=>true
 | .int _=>true
 | _=>false
noncomputable def Ij:B0->Bool
 | .tuple _=>true
 | _=>false
noncomputable def Fq:B0->Bool
 | .list _=>true
 | _=>false
theorem lJ (K:m9) (d:B0):cC K (.type (GC d)) (.type "bool")=some (zI d):=by cases d <;> kernel_rfl
theorem zF (K:m9) (d:B0):cC K (.type (GC d)) (.type "int")=some (Ik d):=by cases d <;> kernel_rfl
theorem iq (K:m9) (d:B0):cC K (.type (GC d)) (.type "tuple")=some (Ij d):=by cases d <;> kernel_rfl
theorem we (K:m9) (d:B0):cC K (.type (GC d)) (.type "list")=some (Fq d):=by cases d <;> kernel_rfl
theorem W4 {T:String}{f:B0->Bool} (hk:∀K d,cC K (.type (GC d)) (.type T)=some (f d)):
  cx X (.builtin "isinstance") (fun xs H Q=>∃x st d,xs=[x,.ty T]/\Dt st H d x/\Q (.bl (f d)) H):=by
 intro pins s σ H xs us Q I r h
 obtain ⟨x,st,d,rfl,hd,q⟩:=h
 cases r with
 | cons r1 rr =>
  cases rr with
  | cons r2 rr =>
   cases rr
   cases r2
   exact AX I r1 (hd.ty (K:=X.K)) (hk X.K d) fun tk=>⟨.bl (f d),H,I.tok tk,rfl,q⟩
theorem lC:jC X (W8 .FloorDiv) (rI (fun _ j=>0<j/\j.natAbs.log2<9000) fun i j=>.int (i / j)):=Jf fun i j _ _ _ _ _ hc q =>
 floordiv_int (by have:=hc.1;lia) (by rw[vc i (by have:=hc.1;lia)];exact q) (.inl (PyProof.noPylong_of_log2 hc.2))
theorem dh:jC X (W8 .Mult) (rI (fun i j=>B8 i<=2 ^ 20/\B8 j<=2 ^ 20) fun i j=>.int (i*j)):=Jf fun _ _ _ _ _ _ _ hc q=>mul_int q (.of_bits hc.1 hc.2)
noncomputable def Kj (K:m9):R2:=fun x y H Q=>∃a b xs ys,x=.ref a/\y=.ref b/\dH K H a xs/\dH K H b ys/\xs.length+ys.length<=i6 /\
 (xs=[]->Q (.ref b) H)/\(xs≠[]->ys=[]->Q (.ref a) H)/\(xs≠[]->ys≠[]->∀p,H p=none->Q (.ref p) (n5 H p (.tup (xs++ys))))
theorem Ff:jC X (W8 .Add) (Kj X.K):=by
 intro pins s σ H x y v u Q I rx ry h
 obtain ⟨a,b,xs,ys,rfl,rfl,ha,hb,hz,q0,q1,q2⟩:=h
 by_cases hx:xs=[]
 ·subst hx
  cases rx
  cases ry
  obtain ⟨its,r1,p1,_⟩:=I.tuple ha
  obtain ⟨its2,r2,p2,_⟩:=I.tuple hb
  cases r1
  obtain ⟨⟨cls,dd,data,sl⟩,ho,hc,n,hd⟩:=id p1
  obtain ⟨⟨cls2,dd2,data2,sl2⟩,ho2,hc2,n2,hd2⟩:=id p2
  simp only at hc hd hc2 hd2
  subst hc hd hc2 hd2
  exact Ey ⟨_,ho,rfl⟩ ⟨_,ho2,rfl⟩ va BF iL gQ (fY _ _)
   (tuple_addW0 a b _ _ n n2 dd dd2 sl sl2 (by rfl)) ⟨ho,ho2,⟨.ref b,H,I,rfl,q0 rfl⟩⟩
 ·exact Fe pins s σ H _ _ v u Q I rx ry ⟨a,b,xs,ys,rfl,rfl,ha,hb,hx,hz,q1 hx,q2 hx⟩
end
section
variable {prog:j6}{w:r9}{A:A5}{E:b9->d7->Prop}{s:d7}
theorem rh {t sl:Addr}{items:Array b9}{vl vu:b9}{lo hi:Option Int}{Q:b9->d7->Prop} (ht:Ao s.heap t items) (hs:s.heap.IsSliceOf sl vl vu .none) (pl:nZ vl lo) (pu:nZ vu hi)
  (hw:HT.cZ items.size 0 lo=0/\HT.cZ items.size items.size hi=items.size) (h:Q (.ref t) s):m6 (t8 prog w) A (kW (.ref t) (.ref sl)) Q E s:=by
 obtain ⟨os,hos,hcs,hds⟩:=id hs
 have hTs:s.TypeIs (.ref sl) "slice":=⟨os,hos,hcs⟩
 unfold kW
 try with_reducible refine P9 ?_
 first|refine b8 (d9 ?_)|skip
 refine b8 (Lo ht.typeIs (by decide) ?_)
 refine b8 (F0 (name:=U6 "__getitem__") ht.typeIs X5
  (E8 X5 ht.typeIs IR ?_ (Jt _ _)))
 show m6 _ _ (dP (.ref t) >>= _) _ _ s
 refine b8 (tupleItemsOf_ ht (b8 (Er hTs ?_)))
 rw[if_pos (by decide)]
 refine b8 (HT.gi hs pl pu ?_)
 show m6 _ _ (if (((HT.cZ items.size 0 lo:Nat):Int) == 0&&(1:Int) == 1&&(HT.cZ items.size items.size hi - HT.cZ items.size 0 lo) == items.size)=true then _ else _) _ _ s
 rw[if_pos (by rw[hw.1,hw.2];simp)]
 refine b8 (m:=mq (.ref t)) ?_
 unfold mq
 refine b8 (Er ht.typeIs (d9 ?_))
 rw[if_pos (by decide)]
 refine b8 (P1 ?_)
 first
  | exact d9 ⟨_,rfl,d9 h⟩
  | exact b8 (d9 (d9 ⟨_,rfl,d9 h⟩))
end
section
variable {X:Cx}
noncomputable def rSlA (K:m9):V->Option Int->Option Int->Hp->VK->Prop:=fun x lo hi H Q=>∃a xs,x=.ref a/\dH K H a xs /\
 ((HT.cZ xs.length 0 lo=0/\HT.cZ xs.length xs.length hi=xs.length)->Q (.ref a) H) /\
 (¬ (HT.cZ xs.length 0 lo=0/\HT.cZ xs.length xs.length hi=xs.length)->∀p,H p=none->Q (.ref p) (n5 H p (.tup (kJ xs lo hi))))
theorem GR:LH X (rSlA X.K):=by
 intro pins s σ H x v vl vu lo hi sl Q I rx hs pl pu h
 obtain ⟨a,xs,rfl,hx,q1,q2⟩:=h
 by_cases hw:HT.cZ xs.length 0 lo=0/\HT.cZ xs.length xs.length hi=xs.length
 ·cases rx
  obtain ⟨its,r,ht,hz⟩:=I.tuple hx
  have hlen:its.toArray.size=xs.length:=by rw[n9];exact r.length.symm
  exact ⟨"tuple",_,PyProof.Rows.slot_tuple_getitem.lookup,ht.typeIs,rh ht hs pl pu (by rw[hlen];exact hw) ⟨.ref a,H,I,rfl,q1 hw⟩⟩
 ·exact GQ pins s σ H _ v vl vu lo hi sl Q I rx hs pl pu ⟨a,xs,rfl,hx,hw,q2 hw⟩
theorem rQ:Jq (.type "tuple") (dunderR "mul")=pure (some (.builtin "tuple.__rmul__")):=by rw[typeLookup_type,builtinLookup_eq_fast];kernel_rfl
theorem cR:fillsNumberSlot (.type "tuple") "mul"=pure false :=
 PySem.fillsNumberSlot_seq (id:="tuple.__mul__") (r:=some (.builtin "tuple.__rmul__")) F.slot_tuple_mul.lookup (by decide +kernel) rQ (by decide +kernel)
theorem ie:seqRepeat? (.type "tuple")=pure (some (.builtin "tuple.__mul__")):=by
 unfold seqRepeat?
 rw[EC (T:="tuple") (name:="__mul__") (id:="tuple.__mul__") F.slot_tuple_mul.lookup (by decide +kernel),EC (T:="tuple") (name:="__rmul__") (id:="tuple.__rmul__") rQ (by decide +kernel)]
 rfl
theorem ky (a:Int) (t:Tok) (l:Addr) (items:Array b9) (n:Nat) (dd:Option Addr) (sl:Array (Option b9)):
  Eh (bD.«int.__rmul__» ⟨[.int a t,.ref l],[]⟩) (fun _ R s=>s.heap.get? l=some { cls:=.type "tuple",dict:=dd,data:=.seq items n,slots:=sl }/\R (.ok (.ret Aj)) s):=
 .of_wp fun prog w A R s h=>by obtain ⟨hp,g,d,tk,os⟩:=s;obtain ⟨hl,h⟩:=h;wp_walk;exact ⟨_,rfl,h⟩
theorem yj (l:Addr) (items:Array b9) (n:Nat) (dd:Option Addr) (sl:Array (Option b9)) (t:Tok):
  Eh (bD.«tuple.__mul__» ⟨[.ref l,.int 1 t],[]⟩) (fun _ R s=>s.heap.get? l=some { cls:=.type "tuple",dict:=dd,data:=.seq items n,slots:=sl }/\R (.ok (.ret (.ref l))) s):=
 .of_wp fun prog w A R s h=>by
  obtain ⟨hp,g,d,tk,os⟩:=s;obtain ⟨hl,h⟩:=h
  wp_walk
  exact ⟨_,rfl,h⟩
theorem yh (l:Addr) (v:b9) (n:Nat) (dd:Option Addr) (sl:Array (Option b9)) (k:Int) (t:Tok) (hk:k=2 ∨ k=3 ∨ k=4):
  Eh (bD.«tuple.__mul__» ⟨[.ref l,.int k t],[]⟩) (fun _ R s=>s.heap.get? l=some { cls:=.type "tuple",dict:=dd,data:=.seq #[v] n,slots:=sl } /\
   R (.ok (.ret (.ref s.heap.objs.size))) { s with heap:=s.heap.push { cls:=.type "tuple",data:=.seq (A7 k.toNat v).toArray } }):=
 .of_wp fun prog w A R s h=>by
  obtain ⟨hp,g,d,tk,os⟩:=s;obtain ⟨hl,h⟩:=h
  rcases hk with rfl|rfl|rfl
  ·wp_walk
   exact ⟨_,rfl,h⟩
  ·wp_walk
   exact ⟨_,rfl,h⟩
  ·wp_walk
   exact ⟨_,rfl,h⟩
noncomputable def Ke (K:m9):R2:=fun x y H Q=>∃a v k,x=.ref a/\y=.int k/\dH K H a [v]/\1<=k/\k<=4/\(k=1->Q (.ref a) H)/\(k≠1->∀p,H p=none->Q (.ref p) (n5 H p (.tup (A7 k.toNat v))))
theorem vg {v:V}{u:b9} (r:Q4 v u):∀n:Nat,M9 (A7 n v) (A7 n u)
 | 0=>.nil
 | n+1=>.cons r (vg r n)
theorem zw:jC X (W8 .Mult) (Ke X.K):=by
 intro pins s σ H x y w' u Q I rx ry h
 obtain ⟨a,v,k,rfl,rfl,ha,h1,h4,q1,q2⟩:=h
 cases rx
 obtain ⟨t,rfl⟩:=ry
 obtain ⟨its,r,p1,_⟩:=I.tuple ha
 cases r with
 | cons r1 rr =>
  cases rr
  obtain ⟨⟨cls,dd,data,sl⟩,ho,hc,n,hd⟩:=id p1
  simp only at hc hd
  subst hc hd
  refine iV (T:="tuple") (U:="int") (by decide) ⟨_,ho,rfl⟩ (fun s'=>iK s' k t) cR vd cI ie F.slot_int_index.lookup
   (dq cI (iK s k t) sT (qS _ _) (ky k t a _ n dd sl) ⟨ho,rfl,⟨_,ho,rfl⟩,?_⟩)
  by_cases hk:k=1
  ·subst hk
   exact dq jH ⟨_,ho,rfl⟩ iU (gT _ _) (yj a _ n dd sl t) ⟨ho,⟨.ref a,H,I,rfl,q1 rfl⟩⟩
  ·refine dq jH ⟨_,ho,rfl⟩ iU (gT _ _) (yh a _ n dd sl k t (by lia)) ⟨ho,?_⟩
   refine ⟨.ref s.heap.objs.size,_,I.laid (t':=s.toks) (o:=.tup (A7 k.toNat v)) (fun b ob q=>f9 _ q) (i8 _) ?_,rfl,q2 hk _ (I.hok.fresh (i8 _))⟩
   exact ⟨by rw[P0];exact n6 (show k.toNat<=1000 by lia) (U8 (rJ (i8 _))),_,vg r1 _,fC _ _⟩
end
structure V4 (P:j6) (w:r9) (K:m9) (mg:Str->Option b9) (base:Heap) (k:Nat) (x:Str) (ps:List Str) (sp:Sp):Prop where
 ex:∃f fd,mg x=some (.ref f)/\cD K (.ref f)=true/\jV K fd ps []/\N0 P w K mg base dI k f fd ps sp
variable {P:j6}{w:r9}{K:m9}{mg:Str->Option b9}{base:Heap}{k:Nat}{ps:List Str}{sp:Sp}
theorem V4.up {j:Nat}(C:V4 P w K mg base j x ps sp) (h:j<=k):V4 P w K mg base k x ps sp :=
 let ⟨f,fd,a,b,c,d⟩:=C.ex;⟨f,fd,a,b,c,d.mono h⟩
noncomputable def GM (sp:Sp) (t:TA):TE:=fun σ H Q=>t σ H fun vs H1=>sp vs H1 Q E0
section
variable {X:Cx}{k:Nat}{x:Str}{ps:List Str}{sp:Sp}{p pos:Pos}{e:Expr}{es:List Expr}{t:TA}
theorem B9 (C:V4 X.prog X.w X.K X.mg X.base k x ps sp) (hr:cE k X.A) (hg:Gl X x) (ha:PA X (e::es) t)
  (hdb:(x == ("__debug__":Str))=false:=by decide) (he:C4 (e::es) X.env=(false,eval e X.env)::C4 es X.env:=by rfl) (hpl:(aU pos (C4 es X.env)).any (·.1)=false:=by rfl):
  PE X (.Call (.Name x p) (e::es) [] pos) (GM sp t):=by
 obtain ⟨f,fd,hm,hk,hb,F⟩:=C.ex
 have h:=zv (x:=x) (p:=p) (pos:=pos) F hr hg hm hk hb .nil Ko ha hdb he hpl
 have e:Ce sp [] E0 t=GM sp t:=by
  funext σ H Q
  show t σ H (fun vs H1=>sp (vs++[]) H1 Q E0)=t σ H (fun vs H1=>sp vs H1 Q E0)
  congr 1
  funext vs H1
  rw[S6]
 rw[<- e];exact h
end
section
variable {K:m9}{σ0:St}{te:TE}{H:Hp}{F:List V->Hp->Prop}
theorem Y8 {lo:Int}{n:Nat} (hn:n<=i6) (Pv:Nat->List V->Hp->Prop) (h0:Pv 0 [] H) (hl:∀i ys H,Pv i ys H->ys.length=i) (hσ:σ0[0]?=some none)
  (hs:∀i ys H,i<n->Pv i ys H->te (σ0.set 0 (some (.int (lo+i)))) H fun y H'=>Pv (i+1) (ys++[y]) H') (hd:∀ys H,Pv n ys H->F ys H):Bn (IJ lo n) σ0 (V7 0) S1 te H F:=by
 refine ⟨fun i m ys H=>m=n - i/\i<=n/\Pv i ys H,⟨n,by simp,u9 _,h0⟩,?_⟩
 rintro i m ys H2 ⟨rfl,hi,p⟩
 refine ⟨by rw[hl i ys H2 p];lia,?_⟩
 by_cases hlt:i<n
 ·refine .inr ⟨hlt,fun y H'=>Pv (i+1) (ys++[y]) H',fun _=>False,fun y H' q=>⟨n - (i+1),by lia,rfl,hlt,q⟩,fun _ q=>q.elim,fun x H3 y=>?_⟩
  obtain ⟨rfl,rfl⟩:=y
  exact ⟨Wk.set (.inl hσ),hs i ys _ hlt p⟩
 ·have e:i=n:=by lia
  subst e
  exact .inl ⟨i8 _,hd ys H2 p⟩
theorem oJ {a:Addr}{xs:List V} (hn:xs.length<=i6) (Pv:Nat->List V->Hp->Prop) (h0:Pv 0 [] H) (hl:∀i ys H,Pv i ys H->ys.length=i) (hq:∀i ys H,i<=xs.length->Pv i ys H->dH K H a xs) (hσ:σ0[0]?=some none)
  (hs:∀i ys H x,xs[i]?=some x->Pv i ys H->te (σ0.set 0 (some x)) H fun y H'=>Pv (i+1) (ys++[y]) H') (hd:∀ys H,Pv xs.length ys H->F ys H):Bn (Jn K a) σ0 (V7 0) S1 te H F:=by
 refine ⟨fun i m ys H=>m=xs.length - i/\i<=xs.length/\Pv i ys H,⟨xs.length,by simp,u9 _,h0⟩,?_⟩
 rintro i m ys H2 ⟨rfl,hi,p⟩
 have q:=hq i ys H2 hi p
 refine ⟨by rw[hl i ys H2 p];lia,?_⟩
 by_cases hlt:i<xs.length
 ·refine .inr ⟨⟨xs,xs[i],q,by simp[hlt]⟩,fun y H'=>Pv (i+1) (ys++[y]) H',fun _=>False,fun y H' q=>⟨xs.length - (i+1),by lia,rfl,hlt,q⟩,fun _ q=>q.elim,fun x H3 y=>?_⟩
  obtain ⟨rfl,y⟩:=y
  exact ⟨Wk.set (.inl hσ),hs i ys _ x (y xs q) p⟩
 ·have e:i=xs.length:=by lia
  subst e
  exact .inl ⟨⟨xs,q,i8 _⟩,hd ys H2 p⟩
theorem zX {a b:Addr}{xs ys:List V} (hn:xs.length<=i6) (hxy:xs.length=ys.length) (Pv:Nat->List V->Hp->Prop) (h0:Pv 0 [] H) (hl:∀i zs H,Pv i zs H->zs.length=i)
  (hq:∀i zs H,i<=xs.length->Pv i zs H->dH K H a xs/\dH K H b ys) (hσ:σ0[0]?=some none/\σ0[1]?=some none)
  (hs:∀i zs H x y p,xs[i]?=some x->ys[i]?=some y->H p=none->Pv i zs H->te ((σ0.set 0 (some x)).set 1 (some y)) (n5 H p (.tup [x,y])) fun z H'=>Pv (i+1) (zs++[z]) H') (hd:∀zs H,Pv xs.length zs H->F zs H):
  Bn (Itz K a b) σ0 (qi K 2 (bP (V7 0) (bP (V7 1) rj))) S1 te H F:=by
 refine ⟨fun i m zs H=>m=xs.length - i/\i<=xs.length/\Pv i zs H,⟨xs.length,by simp,u9 _,h0⟩,?_⟩
 rintro i m zs H2 ⟨rfl,hi,p⟩
 obtain ⟨q1,q2⟩:=hq i zs H2 hi p
 refine ⟨by rw[hl i zs H2 p];lia,?_⟩
 by_cases hlt:i<xs.length
 ·refine .inr ⟨⟨xs,ys,xs[i],ys[i]'(by lia),q1,q2,by simp[hlt],by rw[f6 (by lia)]⟩,fun y H'=>Pv (i+1) (zs++[y]) H',fun _=>False,fun y H' q=>⟨xs.length - (i+1),by lia,rfl,hlt,q⟩,fun _ q=>q.elim,fun v H3 yld=>?_⟩
  obtain ⟨r,x,y,hr,rfl,rfl,hx,hy⟩:=yld
  refine ⟨r,[x,y],rfl,.of f7,rfl,x,[y],rfl,y,[],rfl,rfl,?_,?_⟩
  ·refine ⟨by simp,fun j u e=>?_⟩
   by_cases h1:j=1
   ·subst h1;rw[hσ.2] at e;cases e
   ·rw[G5 (J9 h1)]
    by_cases h2:j=0
    ·subst h2;rw[hσ.1] at e;cases e
    ·rw[G5 (J9 h2)];exact e
  ·exact hs i zs _ x y r (hx xs q1) (hy ys q2) hr p
 ·have e:i=xs.length:=by lia
  subst e
  exact .inl ⟨⟨xs,q1,i8 _⟩,hd zs H2 p⟩
end
section
variable {X:Cx}
theorem Y7 {x:Str}{T:String}{pos:Pos} (hg:Gl X x) (hm:X.mg x=none) (hv:X4 x=some (.type T)) (hn:x≠"__name__":=by decide) (hd:(x == ("__debug__":Str))=false:=by decide):PE X (.Name x pos) (tC (.ty T)):=EZ hg hm hv (v:=.ty T) rfl hn hd
theorem aj {scope:Q0}{N:List Str}{s:d7}{H:Hp}{ex:List Addr}{i:Nat}{x:Str}{pos:Pos} (hN:N.Nodup) (hi:N[i]?=some x) (hx:Lf (X.comp scope N s H ex).env.scope x)
  (hf:(X.comp scope N s H ex).fn x=true ∨ (X.comp scope N s H ex).env.scope.names.lookup x=some .local):PG (X.comp scope N s H ex) (.Name x pos) (V7 i):=T7 hN hi hx hf
end
theorem sz (h:n<=1000):n<=i6:=U8 (rJ h)
section
variable {X:Cx}{K:m9}
theorem lenK (h:X.K=K):cx X (.builtin "len") (fun xs H Q=>∃p ys,xs=[.ref p]/\(eV K H p ys ∨ dH K H p ys)/\Q (.int ys.length) H):=by subst h;exact D8
theorem GD (h:X.K=K):cx X (.type "tuple") (fun xs H Q=>∃p ys,xs=[.ref p]/\((eV K H p ys/\∀l,H l=none->Q (.ref l) (n5 H l (.tup ys))) ∨ (dH K H p ys/\Q (.ref p) H))):=by subst h;exact L5
theorem LG (h:X.K=K):Lj X (Kg K):=by subst h;exact L7
theorem ixLK (h:X.K=K):Lj X (ER K):=by subst h;exact R8
theorem qX (h:X.K=K) {es:List Expr}{k:Nat}{t:Gj}{n:Nat}{pos:Pos} (hc:X.calm=true) (hp:Ld X es t)
  (hn:(ft es X.env).length=n:=by rfl) (hst:(ft es X.env).findIdx? (·.1)=none:=by rfl):PG X (.Tuple es k pos) (qi K n t):=by subst h;exact mO hc hp hn hst
end
noncomputable def Hd (h:Heap) (a C:Addr):Option Addr->Prop
 | none=>∃oe vs,h.get? a=some oe/\oe.cls=.ref C/\oe.dict=none/\oe.data=.fields vs/\vs[1]?=some .none
 | some T=>∃oe vs oT ts,h.get? a=some oe/\oe.cls=.ref C/\oe.dict=none/\oe.data=.fields vs/\vs[1]?=some (.ref T)/\T≠a/\h.get? T=some oT/\oT.data=.fields ts/\ts[3]?=some .none
variable {h:Heap}{C:Addr}
theorem Hd.at {x:Option Addr} (q:Hd h a C x):∃oe vs,h.get? a=some oe/\oe.cls=.ref C/\oe.dict=none/\oe.data=.fields vs:=by
 cases x with
 | none=>obtain ⟨oe,vs,e1,e2,e3,e4,_⟩:=q;exact ⟨oe,vs,e1,e2,e3,e4⟩
 | some T=>obtain ⟨oe,vs,_,_,e1,e2,e3,e4,_⟩:=q;exact ⟨oe,vs,e1,e2,e3,e4⟩
theorem ql (f:Array b9->Array b9) (o:Obj):(Q9 f o).dict=o.dict:=by
 obtain ⟨c,d,dt,sl⟩:=o
 cases dt <;> rfl
variable {ev:Env}{out:List Env}{L:Addr}{Q:Unit->d7->Prop}
theorem zL {bs:Heap}{ob:Obj}{us:Array b9}{hdv:b9}{hn:Bool}
  (fr:A.frames=some (ev::out)) (ff:s.heap.FunFrames bs (ev::out)) (fl:ev.frame=some L) (ga:s.heap.get? a=some ob) (gc:ob.cls=.ref C) (gd:ob.dict=none) (gf:ob.data=.fields us) (sz:1<us.size)
  (k:∀h' T,Hd h' a C (some T)->s.heap.objs.size<=T->(∀b o,b≠a->b ∉ lN (ev::out)->s.heap.get? b=some o->h'.get? b=some o) ->
   (∀b o,b≠a->s.heap.get? b=some o->∃sl,h'.get? b=some { o with slots:=sl })->Q () { s with heap:=h' }):
  m6 M A (do let x <- frameOf ev;let pl <- entryPlaceOf L hn;let b <- vf hdv x .none (X3 L) .none pl;nW (.ref a) 1 b) (fun _ s'=>m6 M A (uZ (.ref a) none) Q E s') E s:=by
 have na:a ∉ (ev::out).filterMap (·.frame):=fun hm=>by
  obtain ⟨_,o,ho,hnf⟩:=ff.mem hm
  rw[ga] at ho
  cases ho
  exact hnf us gf
 refine b8 (wpAny_frameOf_fun fr ff fl fun g1 hs=>?_)
 refine b8 (wpAny_entryPlaceOf fun pl hpl=>?_)
 unfold vf newFields
 refine b8 (E4 ?_ (hpl.sizeOk5 _ _ _ _ _))
 have ga1:g1.get? a=some ob:=(hs.2.1 a na).trans ga
 generalize hnew:({ cls:=.type "traceback",dict:=none,data:=.fields ([hdv,.ref L,.none,X3 L,.none]++(if pl.isEmpty then A7 6 E9 else pl)).toArray }:Obj)=ot
 have ga2:(g1.push ot).get? a=some ob:=f9 (h:=g1) ot ga1
 have gt2:(g1.push ot).get? g1.objs.size=some ot:=t7 g1 (by rw[<- hnew];rfl)
 have otd:∃ts,ot.data=.fields ts/\3<ts.size:=by
  refine ⟨_,by rw[<- hnew],?_⟩
  simp only[n9,v9,A8,S5]
  lia
 obtain ⟨ts,otd,tsz⟩:=otd
 refine az ga2 gf sz ?_
 have Ji:g1.objs.size≠a:=F6 (j7 ga1)
 have d3:=Q2 gf (·.setIfInBounds 1 (y6 g1.objs.size))
 have ga3:=X6 (Q9 (·.setIfInBounds 1 (y6 g1.objs.size))) ga2 (aW d3)
 have gt3:((g1.push ot).update a (Q9 (·.setIfInBounds 1 (y6 g1.objs.size)))).get? g1.objs.size=some ot :=
  (O5 (g1.push ot) (Q9 (·.setIfInBounds 1 (y6 g1.objs.size))) (J9 Ji)).trans gt2
 unfold uZ
 refine b8 (E5 ga3 d3 (x:=.ref g1.objs.size) (by simp[sz]) ?_)
 rw[if_pos (show (y6 g1.objs.size != E9)=true from by simp)]
 refine az gt3 otd tsz ?_
 have kp:∀b o,b≠a->g1.get? b=some o ->
   (((g1.push ot).update a (Q9 (·.setIfInBounds 1 (y6 g1.objs.size)))).update g1.objs.size (Q9 (·.setIfInBounds 3 ((none:Option Addr).elim E9 fun f=>X3 f)))).get? b=some o:=by
  intro b o hb e
  have hbT:g1.objs.size≠b:=F6 (j7 e)
  rw[O5 _ _ hbT,O5 _ _ (J9 hb)]
  exact f9 _ e
 refine k _ g1.objs.size ⟨_,_,_,_,(O5 _ _ Ji).trans ga3,?_,?_,d3,by simp[sz],Ji,X6 _ gt3 (aW (Q2 otd _)),Q2 otd _,?_⟩ (by rw[hs.1];exact i8 _) (fun b o hb hf e=>?_) (fun b o hb e=>?_)
 ·rw[oQ]
  exact gc
 ·rw[ql]
  exact gd
 ·rw[jS tsz]
  rfl
 ·exact kp b o hb ((hs.2.1 b hf).trans e)
 ·obtain ⟨sl,e1⟩:=hs.2.2 b o e
  exact ⟨sl,kp b _ hb e1⟩
variable {hd:Option Addr}
theorem Dp {bs:Heap}
  (fr:A.frames=some (ev::out)) (ff:s.heap.FunFrames bs (ev::out)) (fl:ev.frame=some L) (x:Hd s.heap a C hd)
  (k:∀h' T,Hd h' a C (some T)->s.heap.objs.size<=T->(∀b o,b≠a->hd≠some b->b ∉ lN (ev::out)->s.heap.get? b=some o->h'.get? b=some o) ->
   (∀b o,b≠a->hd≠some b->s.heap.get? b=some o->∃sl,h'.get? b=some { o with slots:=sl })->Q () { s with heap:=h' }):
  m6 M A (Eb (.ref a) ev) (fun _ s'=>m6 M A (uZ (.ref a) none) Q E s') E s:=by
 unfold Eb
 simp only[fl]
 cases hd with
 | none =>
  obtain ⟨oe,vs,e1,e2,e3,e4,e5⟩:=x
  refine b8 (E5 e1 e4 e5 ?_)
  rw[if_neg (by decide)]
  exact zL fr ff fl e1 e2 e3 e4 (Array.getElem?_eq_some_iff.mp e5).1 fun h' T q1 q2 q3 q4=>k h' T q1 q2 (fun b o hb _=>q3 b o hb) (fun b o hb _=>q4 b o hb)
 | some T0 =>
  obtain ⟨oe,vs,oT,ts,e1,e2,e3,e4,e5,ne,t1,t2,t3⟩:=x
  refine b8 (E5 e1 e4 e5 ?_)
  rw[if_pos (show (y6 T0 != E9)=true from by simp)]
  refine b8 (E5 t1 t2 t3 ?_)
  rw[if_neg (show ¬ ((E9 == X3 L)=true) from by simp[X3])]
  refine b8 (az t1 t2 (Array.getElem?_eq_some_iff.mp t3).1 ?_)
  have ot:∀b,b≠T0->(s.heap.update T0 (Q9 (·.setIfInBounds 3 E9))).get? b=s.heap.get? b:=fun b hb=>O5 _ _ (J9 hb)
  have nr:∀b o,s.heap.get? b=some o->(∀vs,o.data≠.fields vs)->b≠T0:=fun b o hb hnf q=>by
   rw[q,t1] at hb
   cases hb
   exact hnf ts t2
  refine zL fr (ff.of_keeps fun b o hb hnf=>⟨o,(ot b (nr b o hb hnf)).trans hb,rfl⟩) fl ((ot a (J9 ne)).trans e1) e2 e3 e4 (Array.getElem?_eq_some_iff.mp e5).1 fun h' T q1 q2 q3 q4=>?_
  have q2':s.heap.objs.size<=T:=by
   have z:=Heap.size_after_update s.heap T0 (Q9 (·.setIfInBounds 3 E9))
   rw[<- z];exact q2
  exact k h' T q1 q2' (fun b o hb hx hf e=>q3 b o hb hf ((ot b fun z=>hx (by rw[z])).trans e)) (fun b o hb hx e=>q4 b o hb ((ot b fun z=>hx (by rw[z])).trans e))
theorem Fm {bs:Heap}
  (fr:A.frames=some (ev::out)) (ff:s.heap.FunFrames bs (ev::out)) (fl:ev.frame=some L) (x:Hd s.heap a C hd)
  (k:∀h' T,Hd h' a C (some T)->s.heap.objs.size<=T->(∀b o,b≠a->hd≠some b->b ∉ lN (ev::out)->s.heap.get? b=some o->h'.get? b=some o) ->
   (∀b o,b≠a->hd≠some b->s.heap.get? b=some o->∃sl,h'.get? b=some { o with slots:=sl })->Q () { s with heap:=h' }):
  m6 M A (Ex ev (.ref a)) Q E s:=by
 unfold Ex
 exact b8 (Dp fr ff fl x k)
theorem P5.there (x:P5 P w H h a o):∃u,h.get? a=some u:=by
 cases o with
 | lst xs=>obtain ⟨_,_,_,_,e⟩:=x;exact ⟨_,e⟩
 | tup xs=>obtain ⟨_,_,_,ob,e,_⟩:=x;exact ⟨_,e⟩
 | dK kvs=>obtain ⟨_,_,_,_,ob,_,_,e,_⟩:=x;exact ⟨_,e⟩
 | dT kvs=>obtain ⟨_,_,_,_,ob,_,_,e,_⟩:=x;exact ⟨_,e⟩
 | set S n=>obtain ⟨ob,_,_,_,e,_⟩:=x;exact ⟨_,e⟩
 | ins C dx fs=>obtain ⟨_,_,_,e,_⟩:=x;exact ⟨_,e⟩
 | own y=>exact x
 | xd fs=>obtain ⟨_,⟨_,_,_,e,_⟩,_⟩:=x;exact ⟨_,e⟩
 | rng lo hi=>obtain ⟨_,_,_,e⟩:=x;exact ⟨_,e⟩
 | frz ob u=>obtain ⟨e,_⟩:=x;exact ⟨_,e⟩
 | tbl ps=>exact ⟨_,(show h.get? a=some _ from x)⟩
 | met f y=>exact ⟨_,(show h.get? a=some _ from x)⟩
 | ext φ=>obtain ⟨_,e,_⟩:=x;exact e
theorem cV.none_of (x:cV P w H h) (e:h.get? a=none):H a=none:=by
 cases z:H a with
 | none=>rfl
 | some u =>
  obtain ⟨o,eo⟩:=(x a u z).there
  rw[e] at eo
  cases eo
structure Ep (P:j6) (w:r9) (fs:List Addr) (H:Hp) (s:d7) (a C:Addr) (H':Hp) (s':d7):Prop where
 os:s'.os=s.os
 bare:jv s'.gens
 un:Un fs [] H H' s.heap s'.heap
 hok:cV P w H' s'.heap
 exc:∃T,Hd s'.heap a C (some T)/\s.heap.get? a=none/\s.heap.get? T=none/\H' a=none/\H' T=none
noncomputable def kT (P:j6) (w:r9):yQ:=fun outer H s E e s'=>∃a C H',e=.ref a/\Ep P w (lN outer) H s a C H' s'/\E (.ref C) none H'
variable {h':Heap}
theorem Gz {fs:List Addr}(ha:H a=none) (ht:∀T,hd=some T->H T=none) (hf:∀b∈fs,H b=none)
  (k1:∀b o,b≠a->hd≠some b->b ∉ fs->h.get? b=some o->h'.get? b=some o) (ok:cV P w H h):cV P w H h':=fun b o e=>by
 have nt:∀c u,H c=some u->c≠a/\hd≠some c/\c ∉ fs:=fun c u q=>by
  refine ⟨fun z=>?_,fun z=>?_,fun z=>?_⟩
  ·rw[z,ha] at q;cases q
  ·rw[ht c z] at q;cases q
  ·rw[hf c z] at q;cases q
 refine (ok b o e).stay (fun c u hc q=>?_) (fun _ q=>q) fun _ _ q=>q
 rcases hc with z|z
 ·subst z
  obtain ⟨n1,n2,n3⟩:=nt _ _ e
  exact k1 _ u n1 n2 n3 q
 ·obtain ⟨n1,n2,n3⟩:=nt _ _ z
  exact k1 _ u n1 n2 n3 q
variable {pins:List (Addr × Obj)}{σ:St}
theorem uw (I:E6 X pins σ H s) (hs:X.stack=X.env::X.outer) (hf:X.env.frame=some X.env.locals) (hex:X.ex=[])
  (x:Hd s.heap a C hd) (na:X.s₀.heap.get? a=none) (nT:∀T,hd=some T->X.s₀.heap.get? T=none) (ha:H a=none) (ht:∀T,hd=some T->H T=none)
  (q:∀s',Ep X.prog X.w X.fs X.H₀ X.s₀ a C H s'->Q () s'):m6 M X.A (Ex X.env (.ref a)) Q E s:=by
 have fr:X.A.frames=some (X.env::X.outer):=by rw[I.ok.frames,hs]
 have ff:s.heap.FunFrames X.base (X.env::X.outer):=by rw[<- hs];exact I.stack
 have hfs:lN (X.env::X.outer)=X.env.locals::X.fs:=by
  unfold lN
  rw[fx,hf]
  rfl
 refine Fm fr ff hf x fun h' T k0 k00 k1 k2=>q _ ?_
 have exN:∀b,b ∉ X.ex:=fun b z=>by rw[hex] at z;cases z
 have neA:∀b o,X.s₀.heap.get? b=some o->b≠a/\hd≠some b/\b≠X.env.locals:=fun b o e=>by
  refine ⟨fun z=>?_,fun z=>?_,v8 (B5 (j7 e) I.ok.above)⟩
  ·rw[z,na] at e;cases e
  ·rw[nT b z] at e;cases e
 refine ⟨I.os,I.bare,⟨fun b o e n hb _=>?_,fun b o e n hb _=>?_,fun b o e n _=>I.base.free b o e n (exN b),fun b o e _=>?_,I.base.tups,I.base.frzs,I.base.tbls⟩,Gz (fs:=lN (X.env::X.outer)) ha ht (fun b hb=>I.stkFree b (by rw[hs];exact hb)) k1 I.hok,T,k0,na,?_,ha,I.hok.fresh k00⟩
 ·obtain ⟨n1,n2,n3⟩:=neA b o e
  exact k1 b o n1 n2 (by rw[hfs];intro z;rcases List.mem_cons.mp z with z|z;exact n3 z;exact hb z) (I.base.keep b o e n hb (exN b))
 ·obtain ⟨n1,n2,n3⟩:=neA b o e
  obtain ⟨sl,e1⟩:=I.base.slot b o e n hb (exN b)
  obtain ⟨sl',e2⟩:=k2 b _ n1 n2 e1
  exact ⟨sl',e2⟩
 ·obtain ⟨n1,n2,n3⟩:=neA b o e
  obtain ⟨o',e1⟩:=I.base.there b o e (exN b)
  obtain ⟨sl',e2⟩:=k2 b _ n1 n2 e1
  exact ⟨_,e2⟩
 ·exact kN (n6 I.sz k00)
variable {b:Addr}
theorem eP {fs:List Addr}(u:Un fs [] H H' h h') (e:h'.get? b=none):h.get? b=none:=by
 cases q:h.get? b with
 | none=>rfl
 | some o =>
  obtain ⟨o',e'⟩:=u.there b o q (by simp)
  rw[e'] at e
  cases e
section
variable {P:j6}{w:r9}{K:m9}{mg:Str->Option b9}{base:Heap}{N:List Str}{qual:Str}{scope:Q0}{f:Addr}{cd:b9}{A:A5}{outer:List Env}{s₀:d7}{H₀:Hp}{E:XK}
theorem fJ:kK (kT P w) (gC (kT P w) P w K mg base N qual scope f cd A outer s₀ H₀ E) E:=by
 intro pins σ H s e s' I h
 obtain ⟨a,C,H',rfl,F,hE⟩:=h
 obtain ⟨T,x,n1,n2,n3,n4⟩:=F.exc
 have I':=I.call' (ch:=[]) F.os F.un F.hok F.bare (fun b z=>absurd z (by simp))
 exact uw I' rfl rfl rfl x (eP I.base n1) (fun T' z=>by cases z;exact eP I.base n2) n3 (fun T' z=>by cases z;exact n4) fun s'' F'=>⟨a,C,H',rfl,F',hE⟩
noncomputable def vE:List b9:=[.type "ValueError",.type "Exception",.type "BaseException",.type "object"]
noncomputable def XC (K:m9) (C:Addr):Prop:=IU K C vE "ValueError.__new__"=true
theorem Fw {K:m9}{h:Heap}{C:Addr} (X:K.In h) (q:XC K C):
  ∃bm N nm q bs hdct sn sub ab col dd k0 k1 k2 k3 k5 mN,h.get? C=some (excClassObj nm q C N bs bm hdct sn sub ab col dd k0 k1 k2 k3 k5 "ValueError.__new__")/\h.Ns N mN/\mN "__init__"=none/\OwnTail h vE bm:=by
 unfold XC IU at q
 split at q
 case h_2=>cases q
 case h_1 dd cd sl ho =>
  split at q
  case h_2=>cases q
  case h_1 C' bm k0 k1 k2 k3 n k5 hm hs =>
   simp only[A6,beq_iff_eq,Y3] at q
   obtain ⟨⟨⟨⟨⟨z1,z2⟩,hdel⟩,ht⟩,hok⟩,hni⟩:=q
   subst z1
   subst z2
   obtain ⟨nm,bs,mro,ns,qn,hd,sn,sub,ab,col,del⟩:=cd
   dsimp only at hm hdel hok hni
   subst hm hdel
   have hsl:sl=#[k0,k1,k2,k3,some (.builtin "ValueError.__new__"),k5]:=by
    obtain ⟨l⟩:=sl
    simp only at hs
    rw[hs]
   subst hsl
   exact ⟨bm,ns,nm,qn,bs,hd,sn,sub,ab,col,dd,k0,k1,k2,k3,k5,_,X _ _ ho,.of_isNs (W.isNs_of_in X hok),W.nsMap_none_of_in X hok hni,W.tail_of_in X ht⟩
noncomputable def GJ (C:Addr) (E:XK) (t:TA):TS:=fun _ σ H=>t σ H fun _ H1=>E (.ref C) none H1
theorem CN {x:Str}{C:Addr}{e:Expr}{es:List Expr}{t:TA}{np cpos pos:Pos} (hg:Gl (gC (kT P w) P w K mg base N qual scope f cd A outer s₀ H₀ E) x) (hm:mg x=some (.ref C)) (hc:XC K C)
  (ha:PA (gC (kT P w) P w K mg base N qual scope f cd A outer s₀ H₀ E) (e::es) t) (hl:(e::es).length<=1:=by decide)
  (hdb:(x == ("__debug__":Str))=false:=by decide)
  (he:C4 (e::es) (ae qual scope s₀.heap.objs.size f cd)=(false,eval e (ae qual scope s₀.heap.objs.size f cd))::C4 es (ae qual scope s₀.heap.objs.size f cd):=by rfl)
  (hpl:(aU cpos (C4 es (ae qual scope s₀.heap.objs.size f cd))).any (·.1)=false:=by rfl)
  (hvl:∀σ H Q,t σ H Q->t σ H fun vs H1=>vs.length<=i6/\Q vs H1):
  PS (gC (kT P w) P w K mg base N qual scope f cd A outer s₀ H₀ E) (.Raise (some (.Call (.Name x np) (e::es) [] cpos)) none pos) (GJ C E t):=by
 intro pins s σ H D I h
 obtain ⟨bm,NN,nm,q,bs,hdct,sn,sub,ab,col,dd,k0,k1,k2,k3,k5,mN,hC,hN,hni,T⟩:=Fw I.ok.mod.kin hc
 have FB:=PySem.F.excBase_ValueError
 refine wpAny_Raise_call_subT (C:=C) (nm:=nm) (q:=q) (N:=NN) (bs:=bs) (bm:=bm) (hdct:=hdct) (sn:=sn) (sub:=sub) (ab:=ab) (col:=col) (dd:=dd) (k0:=k0) (k1:=k1) (k2:=k2) (k3:=k3) (k5:=k5)
  FB (mN:=mN) (T.hasType FB.hasBase) (I.ok.hd rfl) ?_ hni (lI I hg hm ⟨rfl,?_⟩ hdb)
 ·show (aU cpos (C4 (e::es) (ae qual scope s₀.heap.objs.size f cd))).any (·.1)=false
  rw[he]
  show (false || (aU cpos (C4 es (ae qual scope s₀.heap.objs.size f cd))).any (·.1))=false
  rw[hpl]
  rfl
 ·have hq:=ha cpos pins s σ H _ I (hvl _ _ _ h)
  show m6 _ _ (evalArgs (.ref C) true (aU cpos (C4 (e::es) (ae qual scope s₀.heap.objs.size f cd))) []) _ _ s
  have hq':m6 (t8 P w) (A.deeper (ae qual scope s₀.heap.objs.size f cd)) (spliced (aU cpos (C4 (e::es) (ae qual scope s₀.heap.objs.size f cd)))) _ _ s:=hq
  rw[he] at hq' ⊢
  refine jZ (K5 hq' (fun us s2 ⟨vs,H2,I2,r,lv,hE⟩=>⟨rfl,?_,I2.bk _ _ hC,hN.keeps I2.bk,T.keeps I2.bk,fun h' a mk=>?_⟩) fun _ _ y=>y)
  ·show us.length<=i6
   rw[<- r.length]
   exact lv
  ·obtain ⟨t,ea,tn,et⟩:=mk.there
   have ha:H2 a=none:=I2.hok.none_of mk.new
   have I3:E6 (gC (kT P w) P w K mg base N qual scope f cd A outer s₀ H₀ E) pins σ H2 { s2 with heap:=h' }:=I2.kept mk.keeps
   exact uw (hd:=none) I3 rfl rfl rfl ⟨_,_,ea,rfl,rfl,rfl,rfl⟩ (eP I2.base mk.new) (fun T' z=>by cases z) ha (fun T' z=>by cases z) fun s'' F'=>⟨a,C,H2,rfl,F',hE⟩
end
noncomputable abbrev KN (o:Obj):HO:=.frz o (.ext fun _=>True)
theorem rW {o:Obj} (e:h.get? a=some o):P5 P w H h a (KN o):=⟨e,trivial,⟨o,e⟩,fun _ _ _ _=>trivial⟩
theorem cV.kn {o:Obj} (x:cV P w H h) (e:H a=some (KN o)):h.get? a=some o:=(x a _ e).1
theorem cV.know {o:Obj} (x:cV P w H h) (n:H a=none) (e:h.get? a=some o):cV P w (n5 H a (KN o)) h:=fun b u q=>by
 by_cases hb:b=a
 ·subst hb
  rw[f7] at q
  cases q
  exact rW e
 ·rw[C0 hb] at q
  exact (x b u q).stay (fun _ _ _ z=>z) (fun c z=>by rw[C0 (v5 z n)];exact z) fun c xs z=>by rw[C0 (v5 z n)];exact z
theorem Un.know {fs ex:List Addr}(u:Un fs ex H H' h h') (n:H' a=none) (na:h.get? a=none):Un fs ex H (n5 H' a o) h h' where
 keep:=u.keep
 slot:=u.slot
 free:=fun b ob q m hx=>by
  rw[C0 (fun z=>by rw[z,na] at q;cases q)]
  exact u.free b ob q m hx
 there:=u.there
 tups:=fun b xs q=>by
  rw[C0 (v5 (u.tups b xs q) n)]
  exact u.tups b xs q
 frzs:=fun b ob xs q=>by
  rw[C0 (v5 (u.frzs b ob xs q) n)]
  exact u.frzs b ob xs q
 tbls:=fun b ps q=>by
  obtain ⟨m,e⟩:=u.tbls b ps q
  exact ⟨m,by rw[C0 (v5 e n)];exact e⟩
section
variable {P:j6}{w:r9}{fs:List Addr}{H H':Hp}{s s':d7}{a C:Addr}{M:lZ}{A:A5}{E:b9->d7->Prop}{Q:Unit->d7->Prop}
theorem Ep.noteW {bs:Heap}{ev:Env}{out:List Env}{L:Addr} (F:Ep P w (lN (ev::out)) H s a C H' s') (fr:A.frames=some (ev::out)) (ff:s'.heap.FunFrames bs (ev::out)) (fl:ev.frame=some L) (hfs:∀b∈lN (ev::out),H' b=none)
  (q:∀s'',Ep P w (lN (ev::out)) H s a C H' s''->Q () s''):m6 M A (Eb (.ref a) ev) (fun _ s2=>m6 M A (uZ (.ref a) none) Q E s2) E s':=by
 obtain ⟨T0,x,n1,n2,n3,n4⟩:=F.exc
 refine Dp fr ff fl x fun h' T k0 k00 k1 k2=>q _ ?_
 have neA:∀b o,s.heap.get? b=some o->b≠a/\some T0≠some b:=fun b o e=>by
  refine ⟨fun z=>?_,fun z=>?_⟩
  ·rw[z,n1] at e;cases e
  ·have z':=E7 z
   rw[<- z',n2] at e;cases e
 refine ⟨F.os,F.bare,⟨fun b o e n hb hx=>?_,fun b o e n hb hx=>?_,F.un.free,fun b o e hx=>?_,F.un.tups,F.un.frzs,F.un.tbls⟩,Gz (hd:=some T0) n3 (fun T' z=>by cases z;exact n4) hfs k1 F.hok,T,k0,n1,?_,n3,F.hok.fresh k00⟩
 ·obtain ⟨m1,m2⟩:=neA b o e
  exact k1 b o m1 m2 hb (F.un.keep b o e n hb hx)
 ·obtain ⟨m1,m2⟩:=neA b o e
  obtain ⟨sl,e1⟩:=F.un.slot b o e n hb hx
  obtain ⟨sl',e2⟩:=k2 b _ m1 m2 e1
  exact ⟨sl',e2⟩
 ·obtain ⟨m1,m2⟩:=neA b o e
  obtain ⟨o',e1⟩:=F.un.there b o e hx
  obtain ⟨sl',e2⟩:=k2 b _ m1 m2 e1
  exact ⟨_,e2⟩
 ·exact eP F.un (kN k00)
theorem Ep.landW (F:Ep P w fs H s a C H' s') (hfs:∀b∈fs,H' b=none) (q:∀s'',Ep P w fs H s a C H' s''->Q () s''):m6 M A (uZ (.ref a) none) Q E s':=by
 obtain ⟨T,⟨oe,vs,oT,ts,e1,e2,e3,e4,e5,ne,t1,t2,t3⟩,n1,n2,n3,n4⟩:=F.exc
 refine wpAny_setFlight_none e1 e4 e5 t1 t2 (Array.getElem?_eq_some_iff.mp t3).1 (q _ ?_)
 have ot:∀b,b≠T->(s'.heap.update T (Q9 (·.setIfInBounds 3 E9))).get? b=s'.heap.get? b:=fun b hb=>O5 _ _ (J9 hb)
 have nT:∀b o,s.heap.get? b=some o->b≠T:=fun b o e z=>by rw[z,n2] at e;cases e
 refine ⟨F.os,F.bare,⟨fun b o e n hb hx=>(ot b (nT b o e)).trans (F.un.keep b o e n hb hx),fun b o e n hb hx=>?_,F.un.free,fun b o e hx=>?_,F.un.tups,F.un.frzs,F.un.tbls⟩,?_,T,?_,n1,n2,n3,n4⟩
 ·obtain ⟨sl,z⟩:=F.un.slot b o e n hb hx
  exact ⟨sl,(ot b (nT b o e)).trans z⟩
 ·obtain ⟨o',z⟩:=F.un.there b o e hx
  exact ⟨o',(ot b (nT b o e)).trans z⟩
 ·exact Gz (fs:=fs) (hd:=some T) n3 (fun T' z=>by cases z;exact n4) hfs (fun b o _ hb _ e=>(ot b fun z=>hb (by rw[z])).trans e) F.hok
 ·exact ⟨oe,vs,_,_,(ot a (J9 ne)).trans e1,e2,e3,e4,e5,ne,X6 _ t1 (aW (Q2 t2 _)),Q2 t2 _,by
   rw[jS (Array.getElem?_eq_some_iff.mp t3).1]⟩
end
variable {oe:Obj}
theorem Bb {D:Addr}{Q:Bool->d7->Prop} (X:K.In s.heap) (he:s.heap.get? a=some oe) (hc:oe.cls=.ref C)
  (h1:xm K (.ref C) (.ref D)=some true) (h2:nA K (.ref D) (.type "BaseException")=some true) (q:Q true s):m6 M A (excMatches (.ref a) (.ref D)) Q E s:=by
 obtain ⟨l1,l2,l3⟩:=W.kit_cls (M:=M) X h1
 have l4:=W.looks_subIn (M:=M) X h2
 have l5:IV M s.heap (typeOf (.ref a)) (.ref C):=hc ▸ (W.Looks.ld he).andThen .now
 have l6:IV M s.heap (qM (.ref D) (.type "tuple")) false:=l1.andThen (W.Looks.of_pure tc_notTuple)
 have l7:IV M s.heap (isExcClass (.ref D)) true:=l2.andThen (by simpa using l4)
 unfold excMatches
 refine b8 (l6.here ?_)
 simp only[P8,if_false]
 refine b8 (d9 ?_)
 simp only[Y0,Z9]
 refine b8 (b8 (b8 (l7.here ?_)))
 simp only[iG,P8,if_false]
 refine d9 (d9 (b8 (l5.here (b8 (b8 (b8 (l3.here ?_)))))))
 simp only[if_true]
 exact d9 (d9 (d9 q))
noncomputable abbrev Cx.marked (X:Cx) (v:b9):Cx:={ X with A:=X.A.mark (some v),calm:=false,xe:=fun _ _=>False }
theorem E6.marked {X:Cx}{pins:List (Addr × Obj)}{σ:St}{H:Hp}{s:d7} (I:E6 X pins σ H s) (v:b9):E6 (X.marked v) pins σ H s :=
 ⟨⟨I.ok.mod,I.ok.kind,I.ok.glob,I.ok.blt,I.ok.above,I.ok.inj,I.ok.has,I.ok.cab,(fun z=>absurd z (by simp)),I.ok.frames,I.ok.stk,I.ok.exf,I.ok.bs,I.ok.bsz,I.ok.noex,I.ok.exfs,I.ok.funs,I.ok.frf⟩,
  I.os,I.bare,I.base,I.loc,I.cell,I.free,I.freeC,I.pin,I.hok,I.len⟩
theorem E6.unmarked {v:b9} (ok:X.Ok) (I:E6 (X.marked v) pins σ H s):E6 X pins σ H s :=
 ⟨ok,I.os,I.bare,I.base,I.loc,I.cell,I.free,I.freeC,I.pin,I.hok,I.len⟩
variable {pos:Pos}
theorem Ar {i:Nat}{n:Str}(I:E6 X pins σ H s) (hN:X.N.Nodup) (hi:X.N[i]?=some n) (hl:X.env.scope.names.lookup n=some .local)
  (q:∀s',E6 X pins (σ.set i none) H s'->Q () s'):m6 M A (do dZ X.env n .none;Gq X.env n pos) Q E s:=by
 refine b8 (dW (cf I hN hi (.inl hl) (v:=.non) rfl (fun s1 I1=>?_) (.inr hl)))
 unfold Gq
 refine qA ?_
 obtain ⟨m,hn,hlk⟩:=id I1.loc
 have hcls:(X.env.scope.kind == .class || (X.env.scope.kind == .module&&X.env.locals != X.env.globals))=false:=by rw[I.ok.kind];rfl
 have hiσ:i<σ.length:=by rw[I.len];exact (List.getElem?_eq_some_iff.mp hi).1
 obtain ⟨u0,_,lk0⟩:=hlk i n .non hi (av hiσ) (.inl hl)
 have hv:m n=some u0:=by
  rcases lk0 with ⟨_,z⟩|⟨z,_⟩
  ·exact z
  ·have z':X.env.scope.names.lookup n=some .cell ∨ X.env.scope.names.lookup n=some .free:=z
   rw[hl] at z'
   rcases z' with z'|z' <;> cases z'
 have cne:=I1.cne
 obtain ⟨oL,_,_,hoL,_⟩:=id hn
 refine wpAny_unbindName_local (show X.env.kindOf n=some .local from hl) hn hv hcls fun h' u hn' hs=>q _ ?_
 have neL:∀b o,X.s₀.heap.get? b=some o->b≠X.env.locals:=fun b o e=>v8 (B5 (j7 e) I.ok.above)
 refine ⟨I.ok,I1.os,I1.bare,⟨fun b o e n hb hx=>(hs.2 b (neL b o e)).trans (I1.base.keep b o e n hb hx),fun b o e n hb hx=>?_,I1.base.free,fun b o e hx=>?_,I1.base.tups,I1.base.frzs,I1.base.tbls⟩,⟨_,hn',fun j y v' e1 e2 e3=>?_⟩,fun y c e=>?_,I1.free,I1.freeC,fun p hp=>?_,fun b ob e=>?_,by simpa using I.len⟩
 ·obtain ⟨sl,z⟩:=I1.base.slot b o e n hb hx
  exact ⟨sl,(hs.2 b (neL b o e)).trans z⟩
 ·obtain ⟨o',z⟩:=I1.base.there b o e hx
  exact ⟨o',(hs.2 b (neL b o e)).trans z⟩
 ·by_cases hj:j=i
  ·subst hj
   rw[av hiσ] at e2
   cases e2
  ·rw[G5 (J9 hj)] at e2
   have e2':(σ.set i (some V.non))[j]?=some (some v'):=by rw[G5 (J9 hj)];exact e2
   obtain ⟨u',r',z⟩:=hlk j y v' e1 e2' e3
   refine ⟨u',r',?_⟩
   rcases z with ⟨k,e⟩|⟨k,c,e,z⟩
   ·refine .inl ⟨k,?_⟩
    have ny:y≠n:=fun e=>hj (pV hN e1 (e ▸ hi))
    simp[ny,e]
   ·exact .inr ⟨k,c,e,z.sameBut hs (cne y c e)⟩
 ·obtain ⟨w',z⟩:=I1.cell y c e
  exact ⟨w',z.sameBut hs (cne y c e)⟩
 ·obtain ⟨e,n,ne,nf,d⟩:=I1.pin p hp
  exact ⟨(hs.2 p.1 ne).trans e,n,ne,nf,d⟩
 ·refine (I1.hok b ob e).stay (fun c w' hc z=>(hs.2 c ?_).trans z) (fun _ z=>z) fun _ _ z=>z
  rintro rfl
  have fr:=I1.free
  rcases hc with rfl|hc
  ·rw[fr] at e;cases e
  ·rw[fr] at hc;cases hc
noncomputable def IM (X:Cx) (k:Nat) (fa:Addr) (sp:Sp) (H:Hp):Prop :=
 ∃fo fd,H fa=some (KN fo)/\fo.data=.func fd/\Ai fd ⟨[],[]⟩=pure []/\N0 X.prog X.w X.K X.mg X.base (kT X.prog X.w) k fa fd [] sp
noncomputable def qx (oe:Obj) (C:Addr):Prop:=oe.cls=.ref C/\oe.dict=none/\∃vs,oe.data=.fields vs
noncomputable def tTry (X:Cx) (k iC iE iR:Nat) (B:Addr):TS:=fun D σ H=>∃fa sp,σ[iC]?=some (some (.ref fa))/\IM X k fa sp H /\
 sp [] H (fun _ H1=>D.nx σ H1) (fun c _ H1=>∃C,c=.ref C/\xm X.K (.ref C) (.ref B)=some true/\∀a oe,qx oe C->H1 a=none->D.nx ((σ.set iR (some (.ref a))).set iE none) (n5 H1 a (KN oe)))
theorem ET {iC iE iR:Nat}{xc xT n xr:Str}{B:Addr}{p1 p2 p3 p4 p5 p6 p7 p8 p9:Pos} (hs:X.stack=X.env::X.outer) (hfl:X.env.frame=some X.env.locals) (hr:cE k X.A) (hN:X.N.Nodup)
  (hC:X.N[iC]?=some xc) (hCv:La X.env.scope xc) (hE:X.N[iE]?=some n) (hEl:X.env.scope.names.lookup n=some .local) (hR:X.N[iR]?=some xr) (hRl:X.env.scope.names.lookup xr=some .local) (hne:iE≠iR)
  (hg:Gl X xT) (hm:X.mg xT=some (.ref B)) (hB:nA X.K (.ref B) (.type "BaseException")=some true)
  (d1:(xc == ("__debug__":Str))=false:=by decide) (d2:(xc == ("__classdict__":Str))=false:=by decide) (d3:(xT == ("__debug__":Str))=false:=by decide) (d4:(n == ("__debug__":Str))=false:=by decide) (d5:(n == ("__classdict__":Str))=false:=by decide)
  (w1:om (.Call (.Name xc p1) [] [] p2) none p3.line X.env=pure false:=by rfl) (w2:om (.Name n p6) (some (.Name xr p5)) p7.line X.env=pure false:=by rfl)
  (w3:qB [.Name xr p5] (.Name n p6) X.env=pure none:=by rfl):
  PS X (.Try [.Expr (.Call (.Name xc p1) [] [] p2) p3] [.ExceptHandler (some (.Name xT p4)) (some n) [.Assign [.Name xr p5] (.Name n p6) p7] p8] [] [] p9) (tTry X k iC iE iR B):=by
 intro pins s σ H D I h
 obtain ⟨fa,sp,e0,⟨fo,fd,kn,hfd,bnd,F⟩,hsp⟩:=h
 refine wpAny_Try_except (uW (wpAny_Expr_any (dn ?_) I.quiet w1))
 have hv:=xX (X:=X.nox) (i:=iC) (x:=xc) (pos:=p1) hC hCv d1 d2 pins s σ H (fun v H1=>v=.ref fa/\H1=H) (I.wish _) ⟨_,e0,rfl,rfl⟩
 refine K5 hv (fun u s1 ⟨v,H1,I1,r,ev,eH⟩=>?_) fun _ _ z=>G8 z
 subst ev
 subst eH
 obtain rfl:u=y6 fa:=r
 have I2:E6 X pins σ H1 s1:=I1.unwish
 have hfa:W.FnAt fa s1.heap:=by
  have z:=I2.hok.kn kn
  obtain ⟨c,d,dt,sl⟩:=fo
  dsimp only at hfd
  subst hfd
  exact ⟨c,d,fd,sl,z⟩
 refine W.callWith_F0 hfa (qK (gM (F.run X.A X.stack s1 H1 ⟨[],[]⟩ [] [] _ _ hr I2.env0 (.of_eq bnd) .nil hsp) fun res s' hq=>?_))
 cases res with
 | ok fl =>
  cases fl with
  | ret u =>
   obtain ⟨v,H',I3,rv,q3⟩:=I2.after hq
   exact cW (cW ⟨σ,H',I3,q3⟩)
  | next=>exact G8 hq
  | brk=>exact G8 hq
  | cont=>exact G8 hq
 | error e =>
  obtain ⟨a,C,H',rfl,F1,C',ec,hk,hnx⟩:=hq
  cases ec
  have hfr:lN X.stack=lN (X.env::X.outer):=by rw[hs]
  have I3:E6 X pins σ H' s':=I2.call' (ch:=[]) F1.os F1.un F1.hok F1.bare (fun b z=>absurd z (by simp))
  have F1':Ep X.prog X.w (lN (X.env::X.outer)) H1 s1 a C H' s':=by rw[<- hfr];exact F1
  have fr0:∀b∈lN (X.env::X.outer),H' b=none:=fun b hb=>I3.stkFree b (by rw[hfr];exact hb)
  refine F1'.noteW (bs:=X.base) (by rw[I.ok.frames,hs]) (by rw[<- hs];exact I3.stack) hfl fr0 fun s3 F3=>?_
  have inv:∀s4,Ep X.prog X.w (lN (X.env::X.outer)) H1 s1 a C H' s4->E6 X pins σ H' s4:=fun s4 F4=>I2.call' (ch:=[]) F4.os (by rw[hfr];exact F4.un) F4.hok F4.bare (fun b z=>absurd z (by simp))
  refine wpAny_handleBy_cons (codeAny_handlers_test (lI (X:=X.marked (.ref a)) ((inv s3 F3).marked _) hg hm ?_ d3)) (by intro q;cases q)
  obtain ⟨T3,x3,n1,n2,n3,n4⟩:=F3.exc
  obtain ⟨oe3,vs3,e31,e32,e33,e34⟩:=x3.at
  refine Bb (inv s3 F3).kIn e31 e32 hk hB ?_
  show kX _ _ _ _ s3
  refine codeAny_handlers_suite_as (F3.landW fr0 fun s4 F4=>?_)
  obtain ⟨T4,x4,m1,m2,m3,m4⟩:=F4.exc
  obtain ⟨oe,vs,e41,e42,e43,e44⟩:=x4.at
  have I4:E6 X pins σ (n5 H' a (KN oe)) s4:=I2.call' (ch:=[]) F4.os (by rw[hfr];exact F4.un.know m3 m1) (F4.hok.know m3 e41) F4.bare (fun b z=>absurd z (by simp))
  refine cf (X:=X.marked (.ref a)) (I4.marked _) hN hE (.inl hEl) (v:=.ref a) rfl (fun s5 I5=>?_) (.inr hEl)
  have hst:qI (X.marked (.ref a)) [.Assign [.Name xr p5] (.Name n p6) p7] (GN (T6 iE) (V7 iR)):=t6 (F9 hN hR (.inl hRl) (xX hE (.inl hEl) d4 d5) w2 (.inr hRl))
  have hlen:iE<σ.length:=by rw[I.len];exact (List.getElem?_eq_some_iff.mp hE).1
  refine K5 (hst pins s5 _ _ { nx:=fun σ' H2=>σ'=(σ.set iE (some (.ref a))).set iR (some (.ref a))/\H2=n5 H' a (KN oe),rt:=fun _ _=>False } I5 ⟨.ref a,av hlen,rfl,rfl⟩) (fun f s6 q=>?_) fun _ _ z=>G8 z
  cases f with
  | ret v=>obtain ⟨_,_,_,_,_,z⟩:=q;exact G8 z
  | brk=>obtain ⟨_,_,_,z⟩:=q;exact G8 z
  | cont=>obtain ⟨_,_,_,z⟩:=q;exact G8 z
  | next =>
   obtain ⟨σ6,H6,I6,eσ,eH⟩:=q
   subst eσ
   subst eH
   refine Ar (I6.unmarked I.ok) hN hE hEl fun s7 I7=>⟨_,_,I7,?_⟩
   have z:=hnx a oe ⟨e42,e43,vs,e44⟩ m3
   have hσ:((σ.set iE (some (V.ref a))).set iR (some (V.ref a))).set iE none=(σ.set iR (some (V.ref a))).set iE none:=by
    apply gS
    intro j
    simp only[List.getElem?_set,bV]
    by_cases z1:iE=j <;> by_cases z2:iR=j <;> simp[z1,z2]
   rw[hσ]
   exact z
structure XI (K:m9) (C:Addr):Prop where
 ga:X8 K (.ref C) "__getattribute__"=some (some (.builtin "BaseException.__getattribute__"))
 gt:X8 K (.ref C) "__getattr__"=some none
 sb:nA K (.ref C) (.type "BaseException")=some true
 hc:(wU K C).isSome=true
 ha:X8 K (.ref C) "__class__"=some (some (.builtin "object.__class__"))
 hn:mj K (.builtin "object.__class__") "__get__"=some (some (.builtin "getset_descriptor.__get__"))
 tk:Bo K (.builtin "object.__class__")=some true
 hm:IT K C (.type "object")=some true
variable {name:Str}
theorem ux {a g:b9} (hc:(wU K C).isSome=true) (ha:X8 K (.ref C) name=some (some a)) (hg:mj K a "__get__"=some (some g)) (ht:Bo K a=some true):
  Jv K C none name=some (.bind g a):=by
 obtain ⟨cd,hc⟩:=Option.isSome_iff_exists.mp hc
 unfold Jv
 rw[hc,Eg,ha,Eg]
 simp[hg,ht]
theorem AQ {prog:j6}{g d:b9}(X:K.In s.heap) (I:LV s.heap a oe C none)
  (hga:X8 K (.ref C) "__getattribute__"=some (some (.builtin "BaseException.__getattribute__"))) (hgt:X8 K (.ref C) "__getattr__"=some none) (hs:nA K (.ref C) (.type "BaseException")=some true)
  (hf:Jv K C none name=some (.bind g d)) {Q:Option b9->d7->Prop}
  (h:m6 (t8 prog w) A.in1 (call g [d,.ref a,.ref C]) (fun v s'=>m6 (t8 prog w) A (handedOut v) (fun v s''=>Q (some v) s'') (fun _ _=>False) s') (fun _ _=>False) { s with toks:=s.toks+1 }):
  m6 (t8 prog w) A (getAttr? (.ref a) name) Q E s:=by
 obtain ⟨hh,gg,dr,t,os⟩:=s
 have L0:=I.type (M:=t8 prog w)
 have L1:=LS (M:=t8 prog w) X hga
 have L2:=LS (M:=t8 prog w) X hgt
 have L3:=W.looks_find (M:=t8 prog w) X I hf
 have L4:IV (t8 prog w) hh (qM (.ref a) (.type "BaseException")) true:=L0.andThen (W.looks_subIn X hs)
 have f3:=PySem.F.excAttr_ValueError.ga.bind (.ref a)
 unfold getAttr? getAttrBy? getAttrBy
 refine b8 (wpAny_mkText (b8 (V8 (P9 (b8 (L0.at (b8 (L1.at ?_))))))))
 have hx2:(bR "BaseException.__getattribute__" == bR "object.__getattribute__")=false:=by decide +kernel
 have hx3:(LQ (y6 C)&&bR "BaseException.__getattribute__" == bR "object.__getattribute__")=false:=by rw[hx2];rfl
 show m6 _ _ (if (LQ (y6 C)&&bR "BaseException.__getattribute__" == bR "object.__getattribute__")=true then _ else getAttrByItsOwn _ _ _ _ _ _) _ _ _
 rw[hx3,if_neg (by decide)]
 unfold getAttrByItsOwn hookBefore
 simp only[LQ,if_true]
 refine b8 (L2.at (b8 (V8 (P9 ?_))))
 unfold callGetattribute
 rw[if_neg (by decide)]
 unfold boundAndCalled
 refine b8 (wO f3 (qK ?_))
 refine codeAny_call_builtin PySem.F.excAttr_ValueError.ga.plain PySem.F.entry_bexc_ga ?_
 have hk:builtinKind "BaseException.__getattribute__"=some .slot:=by decide +kernel
 have hsplit:splitId "BaseException.__getattribute__"=some ("BaseException","__getattribute__"):=by decide +kernel
 have ha:=PySem.F.args_bexc_ga (.ref a) (.str name t)
 simp only[checkBuiltinCall,hk,hsplit]
 refine b8 (L4.at ?_)
 repeat (first|wp_step)
 refine wpAny_loadPart I.at_ (d9 ?_)
 rw[I.cls]
 refine b8 (L3.at ?_)
 show m6 _ _ (kc g d (.ref a) (.ref C)) _ _ _
 unfold kc
 dsimp only
 exact b8 (P9 (K5 h (fun v s' z=>d9 (K5 z (fun v s'' q=>d9 q) (fun _ _ z=>z.elim))) (fun _ _ z=>z.elim)))
theorem qx.inst (x:qx oe C) (e:h.get? a=some oe):LV h a oe C none:=by
 obtain ⟨c,d,vs,hv⟩:=x
 refine ⟨e,c,?_,?_⟩
 ·obtain ⟨c0,d0,dt,sl⟩:=oe
  dsimp only at hv
  subst hv
  rfl
 ·rw[d]
  trivial
theorem DA (Z:XI K C) (x:qx oe C):W.KitX K (.ref a) (.ref C) (fun h=>h.get? a=some oe) where
 ty:=fun _ _ _ e=>(x.inst e).type
 it:=fun _ _ X _=>by
  obtain ⟨cd,hcD⟩:=Option.isSome_iff_exists.mp Z.hc
  unfold wU at hcD
  split at hcD
  case h_2=>cases hcD
  case h_1 c' d' cd' sl' ho =>
   intro A' Q' E' s' k q
   unfold isType loadHead
   exact b8 (wpAny_loadPart (k _ _ (X _ _ ho)) (d9 q))
 ne:=fun h tp dd its n sl X htp=>by
  obtain ⟨cd,hcD⟩:=Option.isSome_iff_exists.mp Z.hc
  refine Bool.eq_false_iff.mpr fun q=>?_
  have e:C=tp:=Value.ref.inj (beq_iff_eq.mp q)
  subst e
  unfold wU at hcD
  split at hcD
  case h_2=>cases hcD
  case h_1 c' d' cd' sl' ho =>
   have z:=(X _ _ ho).symm.trans htp
   cases z
 ca:=fun {_ _ _ _ _ s} X e k=>by
  have hf:=ux Z.hc Z.ha Z.hn Z.tk
  have I:=x.inst e
  exact AQ X I Z.ga Z.gt Z.sb hf (qK (W.class_get (s:={ s with toks:=s.toks+1 }) (ox:=oe) (od:=none) X I Z.hm (W.handed_on rfl k)))
noncomputable def clV:V->Option b9
 | .ref D=>some (.ref D)
 | .ty T=>some (.type T)
 | _=>none
noncomputable def rIsX (K:m9):List V->Hp->VK->Prop:=fun xs H Q=>∃a oe C c cv b,xs=[.ref a,c]/\H a=some (KN oe)/\qx oe C/\XI K C/\clV c=some cv/\cC K (.ref C) cv=some b/\Q (.bl b) H
theorem aM :cx X (.builtin "isinstance") (rIsX X.K):=by
 intro pins s σ H xs us Q I r h
 obtain ⟨a,oe,C,c,cv,b,rfl,ha,x,Z,hcv,hk,q⟩:=h
 cases r with
 | cons r1 rr =>
  cases rr with
  | cons r2 rr =>
   cases rr
   cases r1
   have ec:∀u,Q4 c u->u=cv:=fun u ru=>by
    cases c with
    | ref D=>cases hcv;exact ru
    | ty T=>cases hcv;exact ru
    | _=>cases hcv
   have eu:=ec _ r2
   subst eu
   exact bg (DA Z x) I.kIn (I.hok.kn ha) hk (by intro z;cases z) fun tk=>⟨.bl b,H,I.tok tk,rfl,q⟩
theorem yX:∀{bs:List Bool}{us:List b9},M9 (bs.map V.bl) us->us=bs.map Y5
 | [],_,.nil=>rfl
 | _::_,_,.cons r t=>by rw[yX t];cases r;rfl
noncomputable def Kh:V->List V->Hp->VK->Prop:=fun x vs H Q=>∃(l:Addr) (bs:List Bool) (j:Nat),x=.ref l/\vs=[.bl true]/\H l=some (.lst (bs.map V.bl))/\bs[j]?=some true/\(∀m,m<j->bs[m]?=some false)/\Q (.int j) H
theorem AL :MtR X "list.index" Kh:=by
 intro pins s σ H x vs v us Q I rx rv h
 obtain ⟨l,bs,j,rfl,rfl,hH,hj,hno,q⟩:=h
 cases rx
 obtain ⟨u,rfl,ru⟩:=rv.one
 cases ru
 obtain ⟨z,its,n,r,hl,e⟩:=I.lstM hH
 have ei:=yX r
 subst ei
 obtain ⟨j1,j2⟩:=List.getElem?_eq_some_iff.mp hj
 have z':bs.length<=i6:=by simpa using z
 have hsz:i6<2 ^ 63 - 1:=by decide
 refine dq F.slot_list_index ⟨_,e,rfl⟩ F.entry_list_index (F.args_list_index_2 _ _)
  (SeqAt.list_indexAt l (bs.map Y5).toArray n none #[] (.bool true) (fun y=>y == Y5 true) j (by simpa using j1) (by lia) ?_ ?_) ⟨e,fun y hy=>?_,?_⟩
 ·simp[j2]
 ·intro m hm hlt
  have:=hno m hlt
  obtain ⟨m1,m2⟩:=List.getElem?_eq_some_iff.mp this
  simp[m2]
 ·obtain ⟨b,hb,rfl⟩:∃b,b∈bs/\Y5 b=y:=by simpa using hy
  have eb:(Y5 b == Y5 true)=(b == true):=by cases b <;> rfl
  show sP _ _ _ _ (Y5 b == Y5 true)
  rw[eb]
  exact SeqAt.EqAt.bool_bool b true
 ·exact ⟨.int j,H,I.tok _,⟨_,rfl⟩,q⟩
noncomputable def iJ (cl:List (Str × Addr)) (b:Addr):Prop:=∃x,cl.lookup x=some b
open Classical in
noncomputable def cQ (cl:List (Str × Addr)) (H:Hp):Hp:=fun b=>if iJ cl b then none else H b
open Classical in
noncomputable def xb (cl:List (Str × Addr)) (H H':Hp):Hp:=fun b=>if iJ cl b then H b else H' b
theorem il (h:iJ cl b):cQ cl H b=none:=by unfold cQ;rw[if_pos h]
theorem P3 (h:¬ iJ cl b):cQ cl H b=H b:=by unfold cQ;rw[if_neg h]
theorem xY (h:iJ cl b):xb cl H H' b=H b:=by unfold xb;rw[if_pos h]
theorem dj (h:¬ iJ cl b):xb cl H H' b=H' b:=by unfold xb;rw[if_neg h]
noncomputable def wN (cl:List (Str × Addr)) (H:Hp):Prop:=∀x c,cl.lookup x=some c->∃oc v,H c=some (KN oc)/\oc.data=.cell v
section
variable {P:j6}{w:r9}{fs:List Addr}{cl:List (Str × Addr)}{H H':Hp}{h h':Heap}
theorem Dm (ok:cV P w H h) (ck:wN cl H):cV P w (cQ cl H) h:=fun b o e=>by
 have nb:¬ iJ cl b:=fun z=>by rw[il z] at e;cases e
 rw[P3 nb] at e
 have nk:∀c u,H c=some u->(∀oc,u≠KN oc)->¬ iJ cl c:=fun c u q n ⟨x,z⟩=>by
  obtain ⟨oc,v,q',_⟩:=ck x c z
  rw[q] at q'
  exact n oc (E7 q')
 refine (ok b o e).stay (fun _ _ _ q=>q) (fun c q=>?_) fun c xs q=>?_
 ·rw[P3 (nk c _ q (by intro oc z;cases z))];exact q
 ·rw[P3 (nk c _ q (by intro oc z;cases z))];exact q
theorem FW (u:Un fs [] (cQ cl H) H' h h') (ok:cV P w H h) (ck:wN cl H) (hfs:∀b∈fs,H b=none):Un fs [] H (xb cl H H') h h':=by
 have nc:∀b,H b=none->¬ iJ cl b:=fun b n ⟨x,z⟩=>by
  obtain ⟨oc,v,q,_⟩:=ck x b z
  rw[n] at q;cases q
 have nk:∀c u,H c=some u->(∀oc,u≠KN oc)->¬ iJ cl c:=fun c u q n ⟨x,z⟩=>by
  obtain ⟨oc,v,q',_⟩:=ck x c z
  rw[q] at q'
  exact n oc (E7 q')
 refine ⟨fun b o e n hb hx=>u.keep b o e (by rw[P3 (nc b n)];exact n) hb hx,fun b o e n hb hx=>u.slot b o e (by rw[P3 (nc b n)];exact n) hb hx,fun b o e n hx=>?_,u.there,fun b xs q=>?_,fun b o xs q=>?_,fun b ps q=>?_⟩
 ·rw[dj (nc b n)]
  exact u.free b o e (by rw[P3 (nc b n)];exact n) hx
 ·have z:=nk b _ q (by intro oc z;cases z)
  rw[dj z]
  exact u.tups b xs (by rw[P3 z];exact q)
 ·by_cases z:iJ cl b
  ·rw[xY z];exact q
  ·rw[dj z]
   exact u.frzs b o xs (by rw[P3 z];exact q)
 ·have z:=nk b _ q (by intro oc z;cases z)
  obtain ⟨m,e⟩:=u.tbls b ps (by rw[P3 z];exact q)
  exact ⟨m,by rw[dj z];exact e⟩
theorem DE (u:Un fs [] (cQ cl H) H' h h') (ok:cV P w H h) (ok':cV P w H' h') (ck:wN cl H) (hfs:∀b∈fs,H b=none):cV P w (xb cl H H') h':=fun b o e=>by
 have hn:∀c,iJ cl c->H' c=none/\∃oc v,H c=some (KN oc)/\oc.data=.cell v/\h'.get? c=some oc:=fun c z=>by
  obtain ⟨x,zx⟩:=z
  obtain ⟨oc,v,q,d⟩:=ck x c zx
  have g:=ok.kn q
  exact ⟨u.free c oc g (il ⟨x,zx⟩) (by simp),oc,v,q,d,u.keep c oc g (il ⟨x,zx⟩) (fun hb=>by rw[hfs c hb] at q;cases q) (by simp)⟩
 by_cases z:iJ cl b
 ·rw[xY z] at e
  obtain ⟨_,oc,v,q,d,g⟩:=hn b z
  rw[q] at e
  cases e
  exact rW g
 ·rw[dj z] at e
  refine (ok' b o e).stay (fun _ _ _ q=>q) (fun c q=>?_) fun c xs q=>?_
  ·rw[dj (fun zc=>by rw[(hn c zc).1] at q;cases q)];exact q
  ·rw[dj (fun zc=>by rw[(hn c zc).1] at q;cases q)];exact q
theorem GA {Hf:Hp} (u:Un fs [] Hf H' h h') (ok:cV P w Hf h) (ok':cV P w H' h') (ck:wN cl Hf) (hc:∀b,iJ cl b->H b=none) (ho:∀b,¬ iJ cl b->Hf b=H b):Un fs [] H (cQ cl H') h h'/\cV P w (cQ cl H') h':=by
 have hk:∀b,iJ cl b->∃oc v,H' b=some (KN oc)/\oc.data=.cell v/\h.get? b=some oc/\h'.get? b=some oc:=fun b z=>by
  obtain ⟨x,zx⟩:=z
  obtain ⟨oc,v,q,d⟩:=ck x b zx
  have q':=u.frzs b _ _ q
  exact ⟨oc,v,q',d,ok.kn q,ok'.kn q'⟩
 have nk:∀c u,H' c=some u->(∀oc,u≠KN oc)->¬ iJ cl c:=fun c u q n z=>by
  obtain ⟨oc,v,q',_⟩:=hk c z
  rw[q] at q'
  exact n oc (E7 q')
 have nh:∀c u,H c=some u->¬ iJ cl c:=fun c u q z=>by rw[hc c z] at q;cases q
 refine ⟨⟨fun b o e n hb hx=>?_,fun b o e n hb hx=>?_,fun b o e n hx=>?_,u.there,fun b xs q=>?_,fun b o xs q=>?_,fun b ps q=>?_⟩,fun b o e=>?_⟩
 ·by_cases z:iJ cl b
  ·obtain ⟨oc,v,_,_,g,g'⟩:=hk b z
   rw[e] at g;cases g
   exact g'
  ·exact u.keep b o e (by rw[ho b z];exact n) hb hx
 ·by_cases z:iJ cl b
  ·obtain ⟨oc,v,_,_,g,g'⟩:=hk b z
   rw[e] at g;cases g
   exact ⟨o.slots,g'⟩
  ·exact u.slot b o e (by rw[ho b z];exact n) hb hx
 ·by_cases z:iJ cl b
  ·exact il z
  ·rw[P3 z]
   exact u.free b o e (by rw[ho b z];exact n) hx
 ·have z:=nh b _ q
  rw[P3 z]
  exact u.tups b xs (by rw[ho b z];exact q)
 ·have z:=nh b _ q
  rw[P3 z]
  exact u.frzs b o xs (by rw[ho b z];exact q)
 ·have z:=nh b _ q
  obtain ⟨m,e⟩:=u.tbls b ps (by rw[ho b z];exact q)
  exact ⟨m,by rw[P3 z];exact e⟩
 ·have z:¬ iJ cl b:=fun z=>by rw[il z] at e;cases e
  rw[P3 z] at e
  refine (ok' b o e).stay (fun _ _ _ q=>q) (fun c q=>?_) fun c xs q=>?_
  ·rw[P3 (nk c _ q (by intro oc z;cases z))];exact q
  ·rw[P3 (nk c _ q (by intro oc z;cases z))];exact q
end
noncomputable def nu (q:Str) (T:Addr) (H:Hp):Prop:=∃ps,H T=some (.tbl ps)/\iz ps.toList /\
 ∀pos v,iw pos ps.toList=some v->∃c oc vs t,v=.ref c/\H c=some (KN oc)/\oc.data=.fields vs/\vs[1]?=some (.str q t)
variable {l:List b9}
theorem nG (h:iz l):l=[] ∨ ∃i t j u c r,l=.int i t::.int j u::c::r/\iz r:=by
 unfold iz at h
 split at h
 ·exact .inl rfl
 ·exact .inr ⟨_,_,_,_,_,_,rfl,h⟩
 ·exact h.elim
theorem vk {i j:Int}{t u:Tok}{c:b9} (h:iz l):iz (l++[.int i t,.int j u,c]):=by
 generalize hn:l.length=n
 induction n using IX generalizing l with
 | _ n ih =>
  rcases nG h with e|⟨a,ta,b,tb,x,r,e,hr⟩
  ·subst e;trivial
  ·subst e
   have z:iz (r++[.int i t,.int j u,c]):=ih r.length (by rw[<- hn];simp only[A8];lia) hr rfl
   exact z
theorem Bl {i j:Int}{t u:Tok}{c v:b9} (h:iz l) (e:iw pos (l++[.int i t,.int j u,c])=some v):iw pos l=some v ∨ v=c:=by
 generalize hn:l.length=n
 induction n using IX generalizing l with
 | _ n ih =>
  rcases nG h with q|⟨a,ta,b,tb,x,r,q,hr⟩
  ·subst q
   have e':(if (i == (pos.line:Int)&&j == (pos.col:Int))=true then some c else iw pos [])=some v:=e
   by_cases z:(i == (pos.line:Int)&&j == (pos.col:Int))=true
   ·rw[if_pos z] at e';exact .inr (E7 e').symm
   ·rw[if_neg z] at e';cases e'
  ·subst q
   have e':(if (a == (pos.line:Int)&&b == (pos.col:Int))=true then some x else iw pos (r++[.int i t,.int j u,c]))=some v:=e
   show (if (a == (pos.line:Int)&&b == (pos.col:Int))=true then some x else iw pos r)=some v ∨ v=c
   by_cases z:(a == (pos.line:Int)&&b == (pos.col:Int))=true
   ·rw[if_pos z] at e'
    rw[if_pos z]
    exact .inl e'
   ·rw[if_neg z] at e'
    rw[if_neg z]
    exact ih r.length (by rw[<- hn];simp only[A8];lia) hr e' rfl
structure Lg (X:Cx) (T:Addr):Prop where
 code:∃c,X.env.code=.ref c/\W.CodeHd X.base c T
 blt:X.base.BuiltinsAt X.mg T
noncomputable abbrev wd (X:Cx):Str:=X.env.qual++"<lambda>"
noncomputable abbrev Dz (X:Cx) (params:dN) (body:Expr) (scope:Q0) (c:Addr) (ctv:b9):Obj:=Bp "<lambda>" (wd X) params body scope (W6 X.env scope.names []) ((X.mg "__name__").getD .none) c ctv
noncomputable def Ad (q:Str) (H:Hp) (c:Addr):Prop:=∃oc vs t,H c=some (KN oc)/\oc.data=.fields vs/\vs[1]?=some (.str q t)
noncomputable def tLam (X:Cx) (T:Addr) (params:dN) (body:Expr) (scope:Q0):TE:=fun σ H Q=>nu (wd X) T H /\
 ∀f c ctv H',(∀b o,b≠T->H b=some o->H' b=some o)->nu (wd X) T H'->H f=none->H' f=some (KN (Dz X params body scope c ctv))->Ad (wd X) H' c->Q (.ref f) H'
variable {T:Addr}
theorem AE {params:dN}{body:Expr}(Z:Lg X T) (hdef:defaultsOf params X.env=([],[]):=by rfl) (hf:bK scope X.env=true:=by rfl):
  PE X (.Lambda params body scope pos) (tLam X T params body scope):=by
 intro pins s σ H Q I h
 obtain ⟨⟨ps,hP,ht,hk⟩,q⟩:=h
 obtain ⟨c,hc,C⟩:=Z.code
 obtain ⟨bm,ob,b1,b2,b3,b4,b5,b6⟩:=Z.blt
 have hcl:=fQ (I.closed hf)
 have hg:=I.mod.glob.keeps I.bk
 have gP:s.heap.get? T=some (Ez ps):=I.hok T _ hP
 have hgT:t9≠T:=fun z=>by
  obtain ⟨o,es,ep,e,hd,_⟩:=hg
  rw[z,gP] at e;cases e;cases hd
 have hB:s.heap.BuiltinsAt X.mg T:=⟨bm,ob,b1,b2,b3,b4,I.bk _ _ b5,b6⟩
 refine W.kla_eval hdef ?_
 cases e:iw pos ps.toList with
 | none =>
  refine W.kla_makeFunction (mg:=X.mg) hcl I.ok.glob hg hc (C.keeps I.bk) gP ht e hgT hB fun c' ctv h' tk hx hge hlt hrec htb=>?_
  obtain ⟨c2,oc,vs,t,e2,hoc,hd,hv⟩:=hrec
  cases e2
  have nT:T<s.heap.objs.size:=j7 gP
  have cT:c'≠T:=fun z=>absurd hge (by rw[z];exact Nat.not_le_of_lt nT)
  have fT:h'.objs.size≠T:=fun z=>absurd (F2 hge hlt) (by rw[z];exact Nat.lt_asymm nT)
  have fc:c'≠h'.objs.size:=v8 hlt
  have sz:s.heap.objs.size<=h'.objs.size:=n6 hge (U8 hlt)
  have nc:H c'=none:=I.hok.fresh hge
  have nf:H h'.objs.size=none:=I.hok.fresh sz
  generalize hfo:Bp "<lambda>" (X.env.qual++"<lambda>") params body scope (W6 X.env scope.names []) ((X.mg "__name__").getD .none) c' ctv=fo
  generalize hps:ps++#[X3 pos.line,X3 pos.col,.ref c']=ps' at htb
  have hfree:fo.isFreed=false:=by rw[<- hfo];rfl
  have kp:∀b o,b≠T->s.heap.get? b=some o->(h'.push fo).get? b=some o:=fun b o hb eb=>f9 _ (hx b o hb eb)
  let H1:Hp:=n5 (n5 (n5 H T (.tbl ps')) c' (KN oc)) h'.objs.size (KN fo)
  have hT1:H1 T=some (.tbl ps'):=by
   show n5 (n5 (n5 H T (.tbl ps')) c' (KN oc)) h'.objs.size (KN fo) T=_
   rw[C0 (J9 fT),C0 (J9 cT),f7]
  have hc1:H1 c'=some (KN oc):=by
   show n5 (n5 (n5 H T (.tbl ps')) c' (KN oc)) h'.objs.size (KN fo) c'=_
   rw[C0 fc,f7]
  have hf1:H1 h'.objs.size=some (KN fo):=f7
  have ho1:∀b,b≠T->b≠c'->b≠h'.objs.size->H1 b=H b:=fun b z1 z2 z3=>by
   show n5 (n5 (n5 H T (.tbl ps')) c' (KN oc)) h'.objs.size (KN fo) b=_
   rw[C0 z3,C0 z2,C0 z1]
  have hs1:∀b o,b≠T->H b=some o->H1 b=some o:=fun b o z eb=>by
   rw[ho1 b z (v5 eb nc) (v5 eb nf)];exact eb
  have old:∀b o,s.heap.get? b=some o->b≠c'/\b≠h'.objs.size:=fun b o eb=>⟨v8 (B5 (j7 eb) hge),v8 (B5 (j7 eb) sz)⟩
  have uT:∀b,H b=none->b≠T:=fun b n z=>by rw[z,hP] at n;cases n
  have U:Un X.fs [] H H1 s.heap (h'.push fo):=by
   refine ⟨fun b o eb n _ _=>kp b o (uT b n) eb,fun b o eb n _ _=>⟨o.slots,kp b o (uT b n) eb⟩,fun b o eb n _=>?_,fun b o eb _=>?_,fun b xs eb=>?_,fun b o u eb=>?_,fun b qs eb=>?_⟩
   ·rw[ho1 b (uT b n) (old b o eb).1 (old b o eb).2];exact n
   ·by_cases z:b=T
    ·subst z;exact ⟨_,f9 _ htb⟩
    ·exact ⟨o,kp b o z eb⟩
   ·exact hs1 b _ (fun z=>by rw[z,hP] at eb;cases eb) eb
   ·exact hs1 b _ (fun z=>by rw[z,hP] at eb;cases eb) eb
   ·by_cases z:b=T
    ·subst z
     rw[hP] at eb;cases eb
     exact ⟨_,by rw[hT1,<- hps]⟩
    ·exact ⟨#[],by rw[hs1 b _ z eb];simp⟩
  have OK:cV X.prog X.w H1 (h'.push fo):=fun b o eb=>by
   by_cases z1:b=T
   ·subst z1
    rw[hT1] at eb;cases eb
    exact f9 _ htb
   ·by_cases z2:b=c'
    ·subst z2
     rw[hc1] at eb;cases eb
     exact rW (f9 _ hoc)
    ·by_cases z3:b=h'.objs.size
     ·subst z3
      rw[hf1] at eb;cases eb
      exact rW (t7 _ hfree)
     ·rw[ho1 b z1 z2 z3] at eb
      refine (I.hok b o eb).stay (fun d v hd qd=>kp d v ?_ qd) (fun d qd=>hs1 d _ (fun z=>by rw[z,hP] at qd;cases qd) qd) fun d xs qd=>hs1 d _ (fun z=>by rw[z,hP] at qd;cases qd) qd
      rcases hd with hd|hd
      ·rw[hd];exact z1
      ·intro z;rw[z,hP] at hd;cases hd
  have I1:=I.un (t':=tk) U OK
  have fin:=q h'.objs.size c' ctv H1 hs1 ⟨ps',hT1,?_,fun pos' v ev=>?_⟩ nf (by rw[hf1,<- hfo]) ⟨oc,vs,t,hc1,hd,hv⟩
  ·exact ⟨.ref h'.objs.size,H1,I1,rfl,fin⟩
  ·rw[<- hps]
   have z:=vk (i:=pos.line) (j:=pos.col) (t:=0) (u:=0) (c:=.ref c') ht
   simpa [X3] using z
  ·rw[<- hps] at ev
   have ev':iw pos' (ps.toList++[.int pos.line 0,.int pos.col 0,.ref c'])=some v:=by simpa [X3] using ev
   rcases Bl ht ev' with z|z
   ·obtain ⟨c3,oc3,vs3,t3,y1,y2,y3,y4⟩:=hk pos' v z
    exact ⟨c3,oc3,vs3,t3,y1,hs1 c3 _ (fun z=>by rw[z,hP] at y2;cases y2) y2,y3,y4⟩
   ·exact ⟨c',oc,vs,t,z,hc1,hd,hv⟩
 | some cv =>
  obtain ⟨c3,oc3,vs3,t3,y1,y2,y3,y4⟩:=hk pos cv e
  subst y1
  refine W.kla_makeFunctionHit (mg:=X.mg) hcl I.ok.glob hg hc (C.keeps I.bk) gP ht e hB fun ctv h' tk hkp sz=>?_
  have nf:H h'.objs.size=none:=I.hok.fresh sz
  have kp:∀b o,s.heap.get? b=some o->(h'.push (Dz X params body scope c3 ctv)).get? b=some o:=fun b o eb=>f9 _ (hkp b o eb)
  have I1:=I.laid (t':=tk) (o:=KN (Dz X params body scope c3 ctv)) kp sz (rW (t7 _ rfl))
  have hs1:∀b o,H b=some o->n5 H h'.objs.size (KN (Dz X params body scope c3 ctv)) b=some o:=fun b o eb=>by rw[C0 (v5 eb nf)];exact eb
  refine ⟨.ref h'.objs.size,_,I1,rfl,q h'.objs.size c3 ctv _ (fun b o _ eb=>hs1 b o eb) ⟨ps,hs1 _ _ hP,ht,fun pos' v ev=>?_⟩ nf f7 ⟨oc3,vs3,t3,hs1 _ _ y2,y3,y4⟩⟩
  obtain ⟨c4,oc4,vs4,t4,x1,x2,x3,x4⟩:=hk pos' v ev
  exact ⟨c4,oc4,vs4,t4,x1,hs1 _ _ x2,x3,x4⟩
noncomputable def si (P:j6) (w:r9) (K:m9) (mg:Str->Option b9) (base:Heap) (N:List Str) (qual:Str) (scope:Q0) (f:Addr) (cd:b9) (cl:List (Str × Addr)) (A:A5) (outer:List Env) (s:d7) (H:Hp) (E:XK):Cx where
 prog:=P
 w:=w
 K:=K
 mg:=mg
 base:=base
 A:=A.deeper (oM qual scope s.heap.objs.size f cd cl)
 N:=N
 s₀:=s
 H₀:=H
 env:=oM qual scope s.heap.objs.size f cd cl
 outer:=outer
 stack:=oM qual scope s.heap.objs.size f cd cl::outer
 ex:=[]
 calm:=true
 fn:=fun _=>false
 pn:=[]
 xe:=fun e s'=>m6 (t8 P w) (A.deeper (oM qual scope s.heap.objs.size f cd cl)) (Ex (oM qual scope s.heap.objs.size f cd cl) e) (fun _ s''=>kT P w outer H s E e s'') (fun e' s''=>kT P w outer H s E e' s'') s'
section
variable {P:j6}{w:r9}{K:m9}{mg:Str->Option b9}{base:Heap}{N:List Str}{qual:Str}{scope:Q0}{f:Addr}{cd:b9}{cl:List (Str × Addr)}{A:A5}{outer:List Env}{s₀:d7}{H₀:Hp}{E:XK}
theorem Fb:kK (kT P w) (si P w K mg base N qual scope f cd cl A outer s₀ H₀ E) E:=by
 intro pins σ H s e s' I h
 obtain ⟨a,C,H',rfl,F,hE⟩:=h
 obtain ⟨T,x,n1,n2,n3,n4⟩:=F.exc
 have I':=I.call' (ch:=[]) F.os F.un F.hok F.bare (fun b z=>absurd z (by simp))
 exact uw I' rfl rfl rfl x (eP I.base n1) (fun T' z=>by cases z;exact eP I.base n2) n3 (fun T' z=>by cases z;exact n4) fun s'' F'=>⟨a,C,H',rfl,F',hE⟩
end
noncomputable def DZ (cl:List (Str × Addr)) (scope:Q0) (N:List Str) (H:Hp) (σ:St):Prop:=σ.length=N.length /\
 ∀(i:Nat) (x:Str) (v:V),N[i]?=some x->σ[i]?=some (some v)->scope.names.lookup x=some .free/\∃c oc u,cl.lookup x=some c/\H c=some (KN oc)/\oc.data=.cell (some u)/\Q4 v u
structure lV (cl:List (Str × Addr)) (scope:Q0):Prop where
 kind:scope.kind=.function
 co:scope.isCoroutine=false
 gen:scope.isGenerator=false
 nocell:∀x∈scope.names,x.2≠.cell
 inj:∀x y c,cl.lookup x=some c->cl.lookup y=some c->x=y
 has:∀x,scope.names.lookup x=some .free->∃c,cl.lookup x=some c
theorem dG {α:Type}:∀{l:List (Str × α)}{x:Str}{c:α},l.lookup x=some c->∃y,(y,c)∈l/\y=x
 | [],_,_,h=>by cases h
 | (y,d)::r,x,c,h=>by
  by_cases z:(x == y)=true
  ·rw[L8,z] at h
   cases h
   exact ⟨y,j8,(beq_iff_eq.mp z).symm⟩
  ·rw[L8,Bool.eq_false_iff.mpr z] at h
   obtain ⟨y',m,e⟩:=dG h
   exact ⟨y',j9 _ m,e⟩
theorem lV.nc (S:lV cl scope) (h:scope.names.lookup x=some .cell):False:=by
 obtain ⟨y,m,_⟩:=dG h
 exact S.nocell _ m rfl
theorem fnL {f c:Addr}{qual:Str}{params:dN}{body:Expr}{pm ct:b9}{N:List Str}
  (S:lV cl scope)
  (hsp:∀vs H Q E,sp vs H Q E->vs=[]/\H f=some (KN (Bp name qual params body scope cl pm c ct))/\Ad qual H c/\wN cl H/\∃σ,DZ cl scope N H σ /\
   ∀(A:A5) (outer:List Env) (s:d7),cE k (A.deeper (oM qual scope s.heap.objs.size f (.ref c) cl))->∃t,PE (si P w K mg base N qual scope f (.ref c) cl A outer s (cQ cl H) (fun C d H'=>E C d (xb cl H H'))) body t/\t σ (cQ cl H) (fun v H'=>Q v (xb cl H H'))):
  N0 P w K mg base (kT P w) (k+1) f (W.kla_fn name qual params body scope cl pm (.ref c) ct) [] sp:=by
 refine ⟨fun vs H Q E q=>by rw[(hsp vs H Q E q).1];rfl,fun A outer s H args us vs Q E hr e0 hb r hq=>?_⟩
 obtain ⟨rfl,hf,⟨oc,cvs,t,hc,hcd,hcv⟩,ck,σ,hσ,hrun⟩:=hsp _ _ _ _ hq
 have lim:s.heap.NoLimit:=e0.mod.nolimit.keeps fun b o e=>(e0.bs b o e).1
 have gf:=e0.hok.kn hf
 have gc:=e0.hok.kn hc
 refine W.kla_callFunE hr.depth gf rfl S.co S.gen rfl ⟨c,oc,cvs,t,rfl,gc,hcd,hcv⟩ (hb _ _ _ _ ?_)
 refine wpAny_newFunctionEnv S.nocell (fun x hx=>absurd hx (by simp)) (fun h1 hns hsb=>⟨lim.fresh _ hsb,?_⟩) S.kind
 show kX _ _ (.expr body (oM qual scope s.heap.objs.size f (.ref c) cl)) _ _
 have hk1:∀b o,s.heap.get? b=some o->h1.get? b=some o:=fun b o e=>hsb.extBut b o (v8 (j7 e)) (f9 _ e)
 obtain ⟨tt,hbody,ht⟩:=hrun A outer s (hr.deeper _)
 have hfs:∀b∈lN outer,H b=none:=e0.frf
 have ok0:=Dm e0.hok ck
 have noff:∀b,H b=none->cQ cl H b=none:=fun b n=>by
  by_cases z:iJ cl b
  ·exact il z
  ·rw[P3 z];exact n
 have nL:∀x d,cl.lookup x=some d->d<s.heap.objs.size/\∃oc v,s.heap.get? d=some oc/\oc.data=.cell v:=fun x d e=>by
  obtain ⟨oc,v,q,dd⟩:=ck x d e
  have g:=e0.hok.kn q
  exact ⟨j7 g,oc,v,g,dd⟩
 have I:E6 (si P w K mg base N qual scope f (.ref c) cl A outer s (cQ cl H) (fun C d H'=>E C d (xb cl H H'))) [] σ (cQ cl H) { s with heap:=h1,toks:=s.toks+([]:List (Str × b9)).length }:=by
  have noA:∀b:Addr,b ∉ (si P w K mg base N qual scope f (.ref c) cl A outer s (cQ cl H) (fun C d H'=>E C d (xb cl H H'))).ex:=fun b z=>absurd (show b∈([]:List Addr) from z) (by simp)
  refine ⟨⟨e0.mod,S.kind,rfl,rfl,i8 _,S.inj,fun y hy=>?_,fun y d hy _=>absurd (show false=true from hy) (by simp),fun _=>hr.hd,yW e0.frames,.inr ⟨rfl,rfl⟩,fun b z=>absurd z (noA b),fun b o e=>⟨(e0.bs b o e).1,noff b (e0.bs b o e).2⟩,e0.bsz,fun b _ _=>noA b,fun b z=>absurd z (noA b),e0.funs,fun b hb=>noff b (e0.frf b hb)⟩,
   rfl,e0.bare,Un.kept hk1,⟨_,hns,fun i y v h1' h2 h3=>?_⟩,fun y d h=>?_,noff _ (e0.hok.fresh (i8 _)),fun y d h=>il ⟨y,h⟩,fun p hp=>absurd (show p∈([]:List (Addr × Obj)) from hp) (by simp),ok0.kept hk1,hσ.1⟩
  ·have hy':scope.names.lookup y=some .cell ∨ scope.names.lookup y=some .free:=hy
   rcases hy' with hy'|hy'
   ·exact (S.nc hy').elim
   ·exact S.has y hy'
  ·obtain ⟨kf,d,oc',u,e1,e2,e3,rv⟩:=hσ.2 i y v h1' h2
   exact ⟨u,rv,.inr ⟨.inr kf,d,e1,oc',hk1 _ _ (e0.hok.kn e2),e3⟩⟩
  ·obtain ⟨_,oc',v,g,dd⟩:=nL y d h
   exact ⟨v,oc',hk1 _ _ g,dd⟩
 refine W.kla_codeExpr (K5 (hbody [] _ σ (cQ cl H) _ I ht) (fun u s' ⟨v,H',J,rv,q⟩=>?_) fun e s' hx=>?_)
 ·exact ⟨v,xb cl H H',J.os,J.bare,FW J.base e0.hok ck hfs,DE J.base e0.hok J.hok ck hfs,rv,q⟩
 ·have conv:∀e s'',kT P w outer (cQ cl H) s (fun C d H'=>E C d (xb cl H H')) e s''->kT P w outer H s E e s'':=fun e s'' h=>by
   obtain ⟨a,C,H',rfl,F,hE⟩:=h
   obtain ⟨T,x,n1,n2,n3,n4⟩:=F.exc
   have nC:∀b,s.heap.get? b=none->¬ iJ cl b:=fun b n ⟨x,z⟩=>by
    obtain ⟨_,oc',v,g,_⟩:=nL x b z
    rw[n] at g;cases g
   exact ⟨a,C,xb cl H H',rfl,⟨F.os,F.bare,FW F.un e0.hok ck hfs,DE F.un e0.hok F.hok ck hfs,T,x,n1,n2,by rw[dj (nC a n1)];exact n3,by rw[dj (nC T n2)];exact n4⟩,hE⟩
  exact K5 hx (fun _ s'' h=>conv e s'' h) fun e' s'' h=>conv e' s'' h
structure qw (X:Cx) (σ:St) (H Hf:Hp):Prop where
 out:∀b,¬ iJ X.env.cells b->Hf b=H b
 none:∀b,iJ X.env.cells b->H b=none
 cell:wN X.env.cells Hf
 val:∀(i:Nat) (x:Str) (v:V),X.N[i]?=some x->σ[i]?=some (some v)->(X.env.kindOf x=some .cell ∨ X.env.kindOf x=some .free)->∃c oc u,X.env.cells.lookup x=some c/\Hf c=some (KN oc)/\oc.data=.cell (some u)/\Q4 v u
open Classical in
noncomputable def kG (cl:List (Str × Addr)) (h:Heap) (H:Hp):Hp:=fun b=>if iJ cl b then (h.get? b).map (fun o=>KN o) else H b
theorem E6.frz {X:Cx}{pins:List (Addr × Obj)}{σ:St}{H:Hp}{s:d7} (I:E6 X pins σ H s):qw X σ H (kG X.env.cells s.heap H)/\cV X.prog X.w (kG X.env.cells s.heap H) s.heap:=by
 have hin:∀b,iJ X.env.cells b->∃o v,s.heap.get? b=some o/\o.data=.cell v/\kG X.env.cells s.heap H b=some (KN o):=fun b z=>by
  obtain ⟨x,zx⟩:=z
  obtain ⟨v,o,e,d⟩:=I.cell x b zx
  refine ⟨o,v,e,d,?_⟩
  unfold kG
  rw[if_pos ⟨x,zx⟩,e]
  rfl
 have hout:∀b,¬ iJ X.env.cells b->kG X.env.cells s.heap H b=H b:=fun b z=>by unfold kG;rw[if_neg z]
 have hno:∀b,iJ X.env.cells b->H b=none:=fun b ⟨x,z⟩=>I.freeC x b z
 refine ⟨⟨hout,hno,fun x c z=>?_,fun i x v h1 h2 h3=>?_⟩,fun b o e=>?_⟩
 ·obtain ⟨o,v,_,d,q⟩:=hin c ⟨x,z⟩
  exact ⟨o,v,q,d⟩
 ·obtain ⟨m,hn,hl⟩:=I.loc
  obtain ⟨u,r,lk⟩:=hl i x v h1 h2 (by rcases h3 with h3|h3;exact .inr (.inl h3);exact .inr (.inr h3))
  rcases lk with ⟨z,_⟩|⟨_,c,e,oc,g,d⟩
  ·rw[z] at h3
   rcases h3 with h3|h3 <;> cases h3
  ·obtain ⟨o,v',g',d',q⟩:=hin c ⟨x,e⟩
   rw[g] at g';cases g'
   exact ⟨c,oc,u,e,q,d,r⟩
 ·by_cases z:iJ X.env.cells b
  ·obtain ⟨o',v,g,d,q⟩:=hin b z
   rw[q] at e;cases e
   exact rW g
  ·rw[hout b z] at e
   refine (I.hok b o e).stay (fun _ _ _ q=>q) (fun c q=>?_) fun c xs q=>?_
   ·rw[hout c (fun zc=>by rw[hno c zc] at q;cases q)];exact q
   ·rw[hout c (fun zc=>by rw[hno c zc] at q;cases q)];exact q
noncomputable def Cd (X:Cx) (sp:Sp) (t:TA):TE:=fun σ H Q=>t σ H fun vs H1=>∀Hf,qw X σ H1 Hf->sp vs Hf (fun v H'=>Q v (cQ X.env.cells H')) E0
variable {e:Expr}{es:List Expr}
theorem CV {f:Addr}{fd:D6}{p:Pos}{t:TA} (F:N0 X.prog X.w X.K X.mg X.base dI k f fd ps sp) (hr:cE k X.A) (hg:Gl X x) (hm:X.mg x=some (.ref f)) (hk:cD X.K (.ref f)=true) (hb:jV X.K fd ps [])
  (hfn:∀y,X.fn y=true:=by intro y;rfl)
  (ha:PA X (e::es) t) (hdb:(x == ("__debug__":Str))=false:=by decide) (he:C4 (e::es) X.env=(false,eval e X.env)::C4 es X.env:=by rfl) (hpl:(aU pos (C4 es X.env)).any (·.1)=false:=by rfl):
  PE X (.Call (.Name x p) (e::es) [] pos) (Cd X sp t):=by
 intro pins s σ H Q I h
 refine dn (lI I hg hm ?_ hdb)
 refine W.callWith_K (h₀:=X.base) I.ok.mod.kin hk (X0 (ha pos pins s σ H _ I h) fun us s1 ⟨vs,H1,I1,r,q⟩=>⟨I1.kIn,?_⟩) he hpl
 obtain ⟨fz,hokf⟩:=I1.frz
 have q':=q _ fz
 have r2:M9 (vs++[]) (us++[]):=r.append .nil
 have hl:(us++[]).length=ps.length:=by rw[<- r2.length,S6];exact F.len _ _ _ _ q'
 have e0:=I1.env0
 have nof:∀b o,X.base.get? b=some o->¬ iJ X.env.cells b:=fun b o eb ⟨y,z⟩=>absurd (B5 (j7 eb) I.ok.bsz) (Gv (I.ok.cab y b (hfn y) z))
 have hfr:∀b∈lN X.stack,¬ iJ X.env.cells b:=fun b hb ⟨y,z⟩=>by
  rcases List.mem_cons.mp (I1.stkSub b hb) with e|hb
  ·exact I1.cne y b z e
  ·obtain ⟨_,o,ho,_⟩:=I1.ok.funs.mem hb
   exact absurd (j7 ho) (Gv (I.ok.cab y b (hfn y) z))
 have e1:Ea X.prog X.w X.K X.mg X.base X.A X.stack s1 (kG X.env.cells s1.heap H1):=⟨e0.frames,e0.mod,fun b o eb=>⟨(e0.bs b o eb).1,by rw[fz.out b (nof b o eb)];exact (e0.bs b o eb).2⟩,e0.bsz,e0.funs,fun b hb=>by rw[fz.out b (hfr b hb)];exact e0.frf b hb,hokf,e0.bare⟩
 refine qK (gM (F.run X.A X.stack s1 _ ⟨us,[]⟩ us vs _ E0 hr e1 (by have z:=hb s1 us I1.kIn hl;rw[S6] at z;exact z) r q') fun res s' hq=>?_)
 cases res with
 | error e=>exact G8 hq
 | ok fl =>
  cases fl with
  | ret u =>
   obtain ⟨v,H',os,bare,un,hok,rv,qq⟩:=hq
   obtain ⟨un',hok'⟩:=GA (H:=H1) un hokf hok fz.cell fz.none fz.out
   exact I1.after ⟨v,_,os,bare,un',hok',rv,qq⟩
  | next=>exact G8 hq
  | brk=>exact G8 hq
  | cont=>exact G8 hq
noncomputable abbrev TJ:=St->Hp->(Hp->Prop)->Prop
noncomputable def PJ (X:Cx) (es:List Expr) (n:Nat) (t:TJ):Prop :=
 ∀(acc:Str),acc.length<=n->∀(pins:List (Addr × Obj)) (s:d7) (σ:St) (H:Hp) (Q:Hp->Prop),E6 X pins σ H s->t σ H Q ->
  m6 (t8 X.prog X.w) X.A (LR acc (evalEach es X.env)) (fun u s'=>∃z H',E6 X pins σ H' s'/\Q4 (.str z) u/\Q H') X.xe s
section
variable {X:Cx}{es:List Expr}{n:Nat}{t:TJ}
theorem CP (h:n<=i6:=by decide):PJ X [] n (fun _ H Q=>Q H):=by
 intro acc ha pins s σ H Q I q
 exact joinParts_nil (s:=s) ⟨acc,H,I.tok _,⟨_,rfl⟩,q⟩ (n6 ha h)
variable {pos:Pos}
theorem tX {x:Str}{j:Nat}(h:PJ X es (n+x.length) t) (hz:n+x.length<=i6:=by decide):PJ X (.Constant (.str x) j pos::es) n t:=by
 intro acc ha pins s σ H Q I q
 show m6 _ _ (LR acc (eval (.Constant (.str x) j pos) X.env::evalEach es X.env)) _ _ _
 refine joinParts_cons (BR ⟨?_,?_⟩)
 ·rw[qC];lia
 ·exact h (acc++x) (by rw[qC];lia) pins _ σ H Q (I.tok _) q
theorem xW {e:Expr}{te:TE}(he:PE X e te) (h:PJ X es (n+100) t) (hz:n+100<=i6:=by decide):
  PJ X (.FormattedValue e (-1) none pos::es) n (fun σ H Q=>te σ H fun v H1=>∃i:Int,v=.int i/\i.natAbs.log2<1920/\(toString i:Str).length<=100/\t σ H1 Q):=by
 intro acc ha pins s σ H Q I q
 show m6 _ _ (LR acc (eval (.FormattedValue e (-1) none pos) X.env::evalEach es X.env)) _ _ _
 refine joinParts_cons (FormattedValue_plain (X0 (he pins s σ H _ I q) fun u s1 ⟨v,H1,I1,r,i,ev,hl,hz',q1⟩=>?_))
 subst ev
 obtain ⟨tk,rfl⟩:=r
 refine formatField_int_small hl ⟨?_,?_⟩
 ·rw[qC];lia
 ·exact h _ (by rw[qC];lia) pins _ σ H1 Q (I1.tok _) q1
theorem zu {v1 v2:Expr}{gj:List Expr}(h:PJ X (v1::v2::gj) 0 t):PE X (.JoinedStr (v1::v2::gj) pos) (fun σ H Q=>t σ H fun H1=>∀z,Q (.str z) H1):=by
 intro pins s σ H Q I q
 exact JoinedStr_many (X0 (h Str.empty (i8 _) pins s σ H _ I q) fun u s1 ⟨z,H1,I1,r,q1⟩=>⟨.str z,H1,I1,r,q1 z⟩)
end
theorem CY :kK (kT P w) X E0:=fun _ _ _ _ _ _ _ h=>by
 obtain ⟨_,_,_,_,_,z⟩:=h
 exact z.elim
section
variable {P:j6}{w:r9}{K:m9}{mg:Str->Option b9}{base:Heap}
theorem bT.okX {x qual:Str}{st:Stmt}{f:Addr}{fd:D6}{N ps:List Str}{k:Nat}{sp:Sp} (F:bT K x qual st f fd) (S:D9 N ps (A1 st)) (len:∀vs H Q E,sp vs H Q E->vs.length=ps.length)
  (hbody:∀(cdv:b9) (A:A5) (outer:List Env) (s:d7) (H:Hp) (vs:List V) (Q:VK) (E:XK),cE k (A.deeper (ae qual (A1 st) s.heap.objs.size f cdv))->sp vs H Q E ->
   ∃t,qI (gC (kT P w) P w K mg base N qual (A1 st) f cdv A outer s H E) (bf st) t/\t { nx:=fun _ H'=>Q .non H',rt:=Q } (start N vs) H):N0 P w K mg base (kT P w) (k+1) f fd ps sp:=by
 obtain ⟨oc,od,kV,doc,pm,an,cdv,ct,osl,rfl,lk,hcd⟩:=F.ex
 exact DJ lk hcd S len fun A outer s H vs Q E hr hsp=>hbody cdv A outer s H vs Q E hr hsp
theorem bT.okC {x qual:Str}{st:Stmt}{f:Addr}{fd:D6}{N ps:List Str}{k:Nat}{sp:Sp} (F:bT K x qual st f fd) (S:D9 N ps (A1 st)) (len:∀vs H Q E,sp vs H Q E->vs.length=ps.length)
  (hbody:∀(cdv:b9) (A:A5) (outer:List Env) (s:d7) (H:Hp) (vs:List V) (Q:VK) (E:XK),fd.code=cdv->cE k (A.deeper (ae qual (A1 st) s.heap.objs.size f cdv))->sp vs H Q E ->
   ∃t,qI (gC dI P w K mg base N qual (A1 st) f cdv A outer s H E).nox (bf st) t/\t { nx:=fun _ H'=>Q .non H',rt:=Q } (start N vs) H):N0 P w K mg base dI (k+1) f fd ps sp:=by
 obtain ⟨oc,od,kV,doc,pm,an,cdv,ct,osl,rfl,lk,hcd⟩:=F.ex
 refine DJ lk hcd S len fun A outer s H vs Q E hr hsp=>?_
 obtain ⟨t,h,q⟩:=hbody cdv A outer s H vs Q E rfl hr hsp
 exact ⟨t,h.nox,q⟩
end
section
variable {P:j6}{w:r9}{K:m9}{mg:Str->Option b9}{base:Heap}{N:List Str}{qual:Str}{scope:Q0}{f:Addr}{cd:b9}{A:A5}{outer:List Env}{s₀:d7}{H₀:Hp}{E:XK}
theorem jy {x:Str}{C:Addr}{e:Expr}{te:TE}{np cpos pos:Pos} (hm:mg x=some (.ref C)) (hc:XC K C) (he:PE (gC (kT P w) P w K mg base N qual scope f cd A outer s₀ H₀ E) e te)
  (hmono:∀σ H (Q Q':VK),(∀v H1,Q v H1->Q' v H1)->te σ H Q->te σ H Q')
  (hg:Gl (gC (kT P w) P w K mg base N qual scope f cd A outer s₀ H₀ E) x:=by rfl)
  (hdb:(x == ("__debug__":Str))=false:=by decide)
  (hst:C4 [e] (ae qual scope s₀.heap.objs.size f cd)=(false,eval e (ae qual scope s₀.heap.objs.size f cd))::C4 [] (ae qual scope s₀.heap.objs.size f cd):=by rfl):
  PS (gC (kT P w) P w K mg base N qual scope f cd A outer s₀ H₀ E) (.Raise (some (.Call (.Name x np) [e] [] cpos)) none pos) (fun _ σ H=>te σ H fun _ H1=>E (.ref C) none H1):=by
 have h:=CN (E:=E) (pos:=pos) (np:=np) (cpos:=cpos) (t:=bM te mD) hg hm hc (b7 he d8 (hs:=hst)) (i8 _) hdb hst rfl (fun σ H Q q=>hmono _ _ _ _ (fun v H1 z=>⟨by show 1<=i6;decide,z⟩) q)
 exact h
end
noncomputable def DY (ts:List Addr) (H:Hp):Prop:=(∀b,H b=none ∨ (∃o xs,H b=some (.frz o (.lst xs))) ∨ (b∈ts/\H b=some (.tbl #[])))/\∀T∈ts,H T=some (.tbl #[])
theorem AO {mb:Str->Option b9}{fa:Addr}{fd:D6}{s1:d7}{vs:List b9}{ts:List Addr}
  (KX:K.In s1.heap) (hns:s1.heap.Ns t9 mg) (hb:s1.heap.Ns kY mb) (hbb:∀x:Str,x≠"__name__"->mb x=X4 x) (hlim:s1.heap.NoLimit) (hg:s1.gens=#[])
  (hbm:∃bm ob,mg "__builtins__"=some (.ref bm)/\bm≠kY/\s1.heap.get? bm=some ob/\ob.cls=.type "module"/\ob.dict=some kY/\ob.data=.plain)
  (ha:s1.heap.get? a=some { cls:=.type "list",data:=.seq vs.toArray }) (hi:aX vs ns) (hl:ns.length<=i6) (hr:cE k sM)
  (tabs:∀T∈ts,s1.heap.get? T=some (Ez #[])/\isCodeTable s1.heap T/\K.lookup T=none)
  (F:∀base:Heap,K.In base->base.Ns t9 mg->(∀T∈ts,base.BuiltinsAt mg T)->N0 P w K mg base dI k fa fd [x] sp) (hbind:∀(s:d7) (u:b9),tf s fd ⟨[u],[]⟩ [(x,u)])
  (hsp:∀H:Hp,DY ts H->eV K H a (ns.map V.int)->sp [.ref a] H (fun v _=>v=.bl true) fun _ _ _=>False):
  kX (t8 P w) sM (.call (.ref fa) ⟨[.ref a],[]⟩) (fun r s'=>r=.ok (.ret (.bool true))/\OldK s1.heap s'.heap/\s'.os=s1.os/\jv s'.gens) s1:=by
 have rv:=rE hi
 have lenV:=hi.length
 have aT:a ∉ ts:=fun z=>by
  have e:=(tabs a z).1
  rw[ha] at e;cases e
 have core:∀H:Hp,DY ts H->eV K H a (ns.map V.int)->cV P w H s1.heap->(∀b,H b≠none->b=a ∨ b∈ts)->(H a≠none->K.lookup a=none) ->
   kX (t8 P w) sM (.call (.ref fa) ⟨[.ref a],[]⟩) (fun r s'=>r=.ok (.ret (.bool true))/\OldK s1.heap s'.heap/\s'.os=s1.os/\jv s'.gens) s1:=by
  intro H hO hS hok hA hK
  have base_of:∀{b:Addr}{o:Obj},s1.heap.get? b=some o->H b=none->(rg s1.heap H).get? b=some o:=fun e n=>DF e n
  have noB:∀{b:Addr}{o:Obj},s1.heap.get? b=some o->(∀xs n,o.data≠.seq xs n)->(∀xs,o.data≠.fields xs)->H b=none:=fun {b o} e d1 d2=>by
   cases q:H b with
   | none=>rfl
   | some u =>
    rcases hA b (by rw[q];simp) with e'|e'
    ·subst e'
     rw[ha] at e;cases e
     exact absurd rfl (d1 _ _)
    ·rw[(tabs b e').1] at e;cases e
     exact absurd rfl (d2 _)
  have noA:∀{b:Addr}{o:Obj}{es:Array T9}{ep:Nat},s1.heap.get? b=some o->o.data=.dict es ep->H b=none:=fun {b o es ep} e d =>
   noB e (fun xs n z=>by rw[d] at z;cases z) (fun xs z=>by rw[d] at z;cases z)
  have nsK:∀{b:Addr}{m:Str->Option b9},s1.heap.Ns b m->(rg s1.heap H).Ns b m:=fun {b m} ⟨o,es,ep,e,d,r⟩=>⟨o,es,ep,base_of e (noA e d),d,r⟩
  have hKb:K.In (rg s1.heap H):=fun b o e=>base_of (KX b o e) (by
   cases q:H b with
   | none=>rfl
   | some u =>
    rcases hA b (by rw[q];simp) with e'|e'
    ·subst e'
     rw[hK (by rw[q];simp)] at e;cases e
    ·rw[(tabs b e').2.2] at e;cases e)
  have hM:Mod K mg (rg s1.heap H):=⟨hKb,nsK hns,⟨mb,nsK hb,hbb⟩,let ⟨mc,h1,h2⟩:=hlim;⟨mc,nsK h1,h2⟩⟩
  have hBM:∀T∈ts,(rg s1.heap H).BuiltinsAt mg T:=fun T hT=>by
   obtain ⟨bm,ob,b1,b2,b3,b4,b5,b6⟩:=hbm
   refine ⟨bm,ob,b1,b2,fun z=>?_,fun z=>?_,base_of b3 (noB b3 (fun xs n z=>by rw[b6] at z;cases z) (fun xs z=>by rw[b6] at z;cases z)),b4,b5,b6⟩
   ·obtain ⟨o,es,ep,e,d,_⟩:=hns
    rw[<- z,b3] at e;cases e
    rw[b6] at d;cases d
   ·rw[z,(tabs T hT).1] at b3;cases b3;cases b4
  have e0:Ea P w K mg (rg s1.heap H) sM [] s1 H:=⟨rfl,hM,fun b o e=>Fk e,Mb (AY _ _),trivial,fun b hb=>absurd (show b∈([]:List Addr) from hb) (by simp),hok,.of_eq hg⟩
  refine gM ((F _ hKb (nsK hns) hBM).run sM [] s1 H ⟨[.ref a],[]⟩ [.ref a] [.ref a] _ _ hr e0 (hbind s1 (.ref a)) (.cons rfl .nil) (hsp H hO hS)) fun r s' h=>?_
  cases r with
  | error e=>exact G8 h
  | ok fl =>
   cases fl with
   | next=>exact G8 h
   | brk=>exact G8 h
   | cont=>exact G8 h
   | ret u =>
    obtain ⟨v,H',os,bare,un,hok',r',q⟩:=h
    have q':v=.bl true:=q
    subst q'
    obtain rfl:u=Y5 true:=r'
    refine ⟨rfl,⟨fun b o e=>?_,fun b o e=>un.there b o e (by simp)⟩,os,bare⟩
    cases q:H b with
    | none=>exact .inl (un.keep b o e q (by intro z;exact absurd (show b∈([]:List Addr) from z) (by simp)) (by simp))
    | some u =>
     rcases hO.1 b with z|⟨ob,xs,z⟩|⟨hT,z⟩
     ·rw[q] at z;cases z
     ·have z2:=un.frzs b ob _ z
      obtain ⟨e1,_⟩:=hok b _ z
      obtain ⟨e2,_⟩:=hok' b _ z2
      rw[e] at e1;cases e1
      exact .inl e2
     ·obtain ⟨more,z2⟩:=un.tbls b _ z
      have e1:s1.heap.get? b=some { cls:=.none,data:=.fields #[] }:=hok b _ z
      have e2:s'.heap.get? b=some { cls:=.none,data:=.fields (#[]++more) }:=hok' b _ z2
      rw[e] at e1;cases e1
      exact .inr (.inl ⟨(tabs b hT).2.1,rfl,#[],more,rfl,e2⟩)
 have tabOk:∀(H:Hp) (T:Addr),T∈ts->P5 P w H s1.heap T (.tbl #[]):=fun H T hT=>(tabs T hT).1
 cases hk:K.lookup a with
 | some o =>
  have e:=KX a o hk
  rw[ha] at e
  cases e
  refine core (fun b=>if b∈ts then some (.tbl #[]) else none) ⟨fun b=>?_,fun T hT=>if_pos hT⟩ (.inr ⟨_,vs.toArray,_,hk,rfl,rfl,rfl,by rw[n9,lenV];exact hl,by simpa using rv⟩) (fun b u z=>?_) (fun b z=>?_) fun z=>absurd (if_neg aT) z
  ·by_cases hb:b∈ts
   ·exact .inr (.inr ⟨hb,if_pos hb⟩)
   ·exact .inl (if_neg hb)
  ·by_cases hb:b∈ts
   ·have z':=(if_pos hb).symm.trans z
    cases z'
    exact tabOk _ b hb
   ·have z':=(if_neg hb).symm.trans z
    cases z'
  ·by_cases hb:b∈ts
   ·exact .inr hb
   ·exact absurd (if_neg hb) z
 | none =>
  refine core (fun b=>if b=a then some (.frz { cls:=.type "list",data:=.seq vs.toArray } (.lst (ns.map V.int))) else if b∈ts then some (.tbl #[]) else none) ⟨fun b=>?_,fun T hT=>?_⟩ (.inl (.inr ⟨{ cls:=.type "list",data:=.seq vs.toArray },if_pos rfl⟩)) (fun b u z=>?_) (fun b z=>?_) fun _=>hk
  ·by_cases hb:b=a
   ·exact .inr (.inl ⟨_,_,if_pos hb⟩)
   ·by_cases hc:b∈ts
    ·exact .inr (.inr ⟨hc,(if_neg hb).trans (if_pos hc)⟩)
    ·exact .inl ((if_neg hb).trans (if_neg hc))
  ·exact (if_neg (fun z=>aT (by rw[<- z];exact hT))).trans (if_pos hT)
  ·by_cases hb:b=a
   ·have z':=(if_pos hb).symm.trans z
    cases z'
    subst hb
    exact ⟨ha,by rw[d6];exact hl,vs,_,rv,ha⟩
   ·have z':=(if_neg hb).symm.trans z
    by_cases hc:b∈ts
    ·have z2:=(if_pos hc).symm.trans z'
     cases z2
     exact tabOk _ b hc
    ·have z2:=(if_neg hc).symm.trans z'
     cases z2
  ·by_cases hb:b=a
   ·exact .inl hb
   ·by_cases hc:b∈ts
    ·exact .inr hc
    ·exact absurd ((if_neg hb).trans (if_neg hc)) z
theorem Ca {l:Jw}{q:j6}{loose:List Str}{XP:(Str->Option b9)->Heap->Prop}{YP:r9->Heap->Prop}{d:DefRec}{K:Params->m9}{sp:r9->Sp}{ts:List Addr}
  (hn:l.most=some n) (hn2:n<=i6) (hdf:d.params.defaults=[]) (hr:cE k sM)
  (hY:∀(w:r9) (h:Heap),YP w h->(K w.params).In h) (hT:∀(w:r9) (h:Heap),YP w h->∀T∈ts,h.get? T=some (Ez #[]))
  (F:∀(w:r9) (mg:Str->Option b9) (fa:Addr) (h:Heap),(K w.params).In h->h.Ns t9 mg->mg d.name=some (.ref fa) ->
   ∃fd:D6,(∀(s:d7) (u:b9),tf s fd ⟨[u],[]⟩ [(x,u)])/\(∀T∈ts,(K w.params).lookup T=none/\∃c,jY (K w.params) c T=true) /\
    ∀base:Heap,(K w.params).In base->base.Ns t9 mg->(∀T∈ts,base.BuiltinsAt mg T)->N0 l.prog w (K w.params) mg base dI k fa fd [x] (sp w))
  (hsp:∀(w:r9) (H:Hp) (a:Addr) (ns:List Int),ns.length<=n->DY ts H->eV (K w.params) H a (ns.map V.int)->sp w [.ref a] H (fun v _=>v=.bl true) fun _ _ _=>False):
  W.WalkO q loose XP YP l.row.toRowW d [] (fun f vs=>BG f vs):=by
 refine Att.wJ hn hdf fun w s₀ s₁ mg mb fa o pm cd doc a vs ns G Y ho hd hcd hmg hobj hints hlen hg=>?_
 have KX:=hY w _ Y
 obtain ⟨fd,hb,ht,hF⟩:=F w mg fa _ KX G.T.g hmg
 refine AO KX G.T.g G.T.b G.T.builtins G.T.nolimit hg G.T.bmain hobj hints (n6 hlen hn2) hr (fun T hm=>?_) hF hb (fun H hO hS=>hsp w H a ns hlen hO hS)
 obtain ⟨h1,c,h2⟩:=ht T hm
 have hP:=hT w _ Y T hm
 exact ⟨hP,((W.codeHd_of_K KX h2).tab hP).isCodeTable,h1⟩
structure fU (P:j6) (w:r9) (K:m9) (mg:Str->Option b9) (base:Heap) (k:Nat) (x:Str) (ps:List Str) (sp:Sp):Prop where
 ex:∃f fd,mg x=some (.ref f)/\cD K (.ref f)=true/\jV K fd ps []/\N0 P w K mg base (kT P w) k f fd ps sp
theorem fU.up {j:Nat}(C:fU P w K mg base j x ps sp) (h:j<=k):fU P w K mg base k x ps sp :=
 let ⟨f,fd,a,b,c,d⟩:=C.ex;⟨f,fd,a,b,c,d.mono h⟩
noncomputable def tCx (sp:Sp) (E:XK) (t:TA):TE:=fun σ H Q=>t σ H fun vs H1=>sp vs H1 Q E
section
variable {X:Cx}{k:Nat}{x:Str}{ps:List Str}{sp:Sp}{p pos:Pos}{e:Expr}{es:List Expr}{t:TA}{E:XK}
theorem cm (C:fU X.prog X.w X.K X.mg X.base k x ps sp) (hr:cE k X.A) (hg:Gl X x) (hx:kK (kT X.prog X.w) X E) (ha:PA X (e::es) t)
  (hdb:(x == ("__debug__":Str))=false:=by decide) (he:C4 (e::es) X.env=(false,eval e X.env)::C4 es X.env:=by rfl) (hpl:(aU pos (C4 es X.env)).any (·.1)=false:=by rfl):
  PE X (.Call (.Name x p) (e::es) [] pos) (tCx sp E t):=by
 obtain ⟨f,fd,hm,hk,hb,F⟩:=C.ex
 have h:=zv (x:=x) (p:=p) (pos:=pos) F hr hg hm hk hb .nil hx ha hdb he hpl
 have e:Ce sp [] E t=tCx sp E t:=by
  funext σ H Q
  show t σ H (fun vs H1=>sp (vs++[]) H1 Q E)=t σ H (fun vs H1=>sp vs H1 Q E)
  congr 1
  funext vs H1
  rw[S6]
 rw[<- e];exact h
end
structure yO (K:m9) (mg:Str->Option b9) (c:Nat->Addr) (B:Addr):Prop where
 e0:mg "NoUrn"=some (.ref (c 0))
 e1:mg "NoRule"=some (.ref (c 1))
 e2:mg "NoKind"=some (.ref (c 2))
 e3:mg "NoBall"=some (.ref (c 3))
 e4:mg "NoDraws"=some (.ref (c 4))
 e5:mg "NoNumber"=some (.ref (c 5))
 e6:mg "NotEven"=some (.ref (c 6))
 e7:mg "NoCounts"=some (.ref (c 7))
 e8:mg "NotAlike"=some (.ref (c 8))
 e9:mg "BadNote"=some (.ref (c 9))
 eb:mg "UrnError"=some (.ref B)
 xc:∀i,i<10->XC K (c i)
 xi:∀i,i<10->XI K (c i)
 sub:∀i,i<10->xm K (.ref (c i)) (.ref B)=some true
 bb:nA K (.ref B) (.type "BaseException")=some true
 one:∀i j,i<10->j<10->cC K (.ref (c i)) (.ref (c j))=some (decide (i=j))
 val:∀i,i<10->cC K (.ref (c i)) (.type "ValueError")=some true
noncomputable def Sm (i:Int):Prop:=i.natAbs.log2<1920/\(toString i:Str).length<=100
section
variable {X:Cx}{pins:List (Addr × Obj)}{σ:St}{H:Hp}{s:d7}
theorem E6.bigger (I:E6 X pins σ H s):aa<s.heap.objs.size:=by
 obtain ⟨mc,⟨o,es,ep,e,_⟩,_⟩:=I.nolimit
 exact F2 (by decide) (j7 e)
noncomputable def ai:R2:=fun x y H Q=>∃(a b:Addr) (xs ys:List V),x=.ref a/\y=.ref b/\H a=some (.tup xs)/\H b=some (.tup ys)/\xs.length+ys.length<=1000/\∀p H',i7 H H'->H' p=some (.tup (xs++ys))->Q (.ref p) H'
theorem jM:jC X (W8 .Add) ai:=by
 intro pins s σ H x y v u Q I rx ry h
 obtain ⟨a,b,xs,ys,rfl,rfl,ha,hb,hz,q⟩:=h
 refine Ff pins s σ H _ _ v u Q I rx ry ⟨a,b,xs,ys,rfl,rfl,.of ha,.of hb,n6 hz (by decide),fun e=>?_,fun _ e=>?_,fun _ _ p hp=>?_⟩
 ·subst e
  exact q b H (i7.refl H) hb
 ·subst e
  exact q a H (i7.refl H) (by rw[S6];exact ha)
 ·exact q p _ (i7.new hp) f7
end
section
variable {K:m9}{σ0:St}{te:TE}{H:Hp}{F:List V->Hp->Prop}
theorem qp {a:Addr}{xs:List V} (hn:xs.length<=i6) (Pv:Nat->List V->Hp->Prop) (h0:Pv 0 [] H) (hl:∀i ys H,Pv i ys H->ys.length=i) (hq:∀i ys H,i<=xs.length->Pv i ys H->eV K H a xs) (hσ:σ0[0]?=some none)
  (hs:∀i ys H x,xs[i]?=some x->Pv i ys H->te (σ0.set 0 (some x)) H fun y H'=>Pv (i+1) (ys++[y]) H') (hd:∀ys H,Pv xs.length ys H->F ys H):Bn (Gm K a) σ0 (V7 0) S1 te H F:=by
 refine ⟨fun i m ys H=>m=xs.length - i/\i<=xs.length/\Pv i ys H,⟨xs.length,by simp,u9 _,h0⟩,?_⟩
 rintro i m ys H2 ⟨rfl,hi,p⟩
 have q:=hq i ys H2 hi p
 refine ⟨by rw[hl i ys H2 p];lia,?_⟩
 by_cases hlt:i<xs.length
 ·refine .inr ⟨⟨xs,xs[i],q,by simp[hlt]⟩,fun y H'=>Pv (i+1) (ys++[y]) H',fun _=>False,fun y H' q=>⟨xs.length - (i+1),by lia,rfl,hlt,q⟩,fun _ q=>q.elim,fun x H3 y=>?_⟩
  obtain ⟨rfl,y⟩:=y
  exact ⟨Wk.set (.inl hσ),hs i ys _ x (y xs q) p⟩
 ·have e:i=xs.length:=by lia
  subst e
  exact .inl ⟨⟨xs,q,i8 _⟩,hd ys H2 p⟩
end
section
variable {X:Cx}{es:List Expr}{te:TE}{t:TA}
theorem jK {c j p} (ha:PE X (.Constant c j p) te) (hr:PA X es t):PA X (.Constant c j p::es) (bM te t):=b7 ha hr rfl
theorem pa_b {a op b p} (ha:PE X (.BinOp a op b p) te) (hr:PA X es t):PA X (.BinOp a op b p::es) (bM te t):=b7 ha hr rfl
theorem pQ {xs c p} (ha:PE X (.Tuple xs c p) te) (hr:PA X es t):PA X (.Tuple xs c p::es) (bM te t):=b7 ha hr rfl
theorem Kq {xs p} (ha:PE X (.List xs p) te) (hr:PA X es t):PA X (.List xs p::es) (bM te t):=b7 ha hr rfl
theorem pa_d {ks vs p} (ha:PE X (.Dict ks vs p) te) (hr:PA X es t):PA X (.Dict ks vs p::es) (bM te t):=b7 ha hr rfl
end
noncomputable def uC:Expr->Option V
 | .Constant (.int i) _ _=>some (.int i)
 | .Constant (.bool b) _ _=>some (.bl b)
 | .Constant .none _ _=>some .non
 | .Constant (.str x) _ _=>some (.str x)
 | .UnaryOp .USub (.Constant (.int i) _ _) _=>some (.int (-i))
 | _=>none
noncomputable def eE:List Expr->Option (List V)
 | []=>some []
 | e::es=>match uC e,eE es with
  | some v,some vs=>some (v::vs)
  | _,_=>none
theorem Be {v:V} (h:uC e=some v):PE X e (tC v)/\∀es:List Expr,C4 (e::es) X.env=(false,eval e X.env)::C4 es X.env:=by
 unfold uC at h
 split at h
 ·cases h;exact ⟨j0,fun _=>rfl⟩
 ·cases h;exact ⟨dF,fun _=>rfl⟩
 ·cases h;exact ⟨kC,fun _=>rfl⟩
 ·cases h;exact ⟨jh,fun _=>rfl⟩
 ·cases h
  refine ⟨fun pins s σ H Q I q=>?_,fun _=>rfl⟩
  exact CS xv j0 pins s σ H Q I ⟨_,rfl,q⟩
 ·cases h
theorem mP {X:Cx}{t:TA}:∀{es:List Expr}{vs:List V} (n:Nat),eE (es.take n)=some vs->PA X (es.drop n) t->PA X es (fun σ H Q=>t σ H fun ws H1=>Q (vs++ws) H1)
 | es,vs,0,h,hr=>by
  have e:vs=[]:=by
   have h':eE []=some vs:=by simpa using h
   cases h';rfl
  subst e
  exact hr
 | [],vs,n+1,h,hr=>by
  have e:vs=[]:=by
   have h':eE []=some vs:=by simpa using h
   cases h';rfl
  subst e
  exact hr
 | e::es,vs,n+1,h,hr=>by
  have h':eE (e::es.take n)=some vs:=by simpa using h
  unfold eE at h'
  cases e1:uC e with
  | none=>rw[e1] at h';cases h'
  | some v =>
   cases e2:eE (es.take n) with
   | none=>rw[e1,e2] at h';cases h'
   | some us =>
    rw[e1,e2] at h'
    cases h'
    obtain ⟨p1,p2⟩:=Be (X:=X) e1
    have ih:=mP (es:=es) n e2 (by simpa using hr)
    exact b7 p1 ih (p2 es)
theorem mR {vs:List V} (h:eE es=some vs):PA X es (fun _ H Q=>Q vs H):=by
 have z:=mP (X:=X) (es:=es) (vs:=vs) es.length (by rw[D4];exact h) (by rw[List.drop_length];exact d8)
 have e:(fun (σ:L2.St) (H:Hp) (Q:List V->Hp->Prop)=>mD σ H fun ws H1=>Q (vs++ws) H1)=fun _ H Q=>Q vs H:=by
  funext σ H Q
  show Q (vs++[]) H=Q vs H
  rw[S6]
 rw[<- e]
 exact z
theorem uc {a c:Expr}{xs:List Expr}{vs:List V}{ta tc:TE}{p1 p2 p3:Pos} (h:eE xs=some vs) (ha:PE X a ta) (hc:PE X c tc) (hx:Ab c):
  PE X (.Subscript a (.Subscript (.List xs p1) c p2) p3) (iP (ER X.K) ta (iP (ER X.K) (JM fun _ H Q=>Q vs H) tc)):=
 G4 R8 ha (G4 R8 (N8 (mR h)) hc hx) (fun _ _=>rfl)
structure xj (X:Cx):Prop where
 inj:∀x y c,X.env.cells.lookup x=some c->X.env.cells.lookup y=some c->x=y
 has:∀x,(X.env.kindOf x=some .cell ∨ X.env.kindOf x=some .free)->∃c,X.env.cells.lookup x=some c
theorem HN {t:TE} (h:PE X e t):PE X e (fun σ H Q=>xj X->t σ H Q):=fun pins s σ H Q I q=>h pins s σ H Q I (q ⟨I.ok.inj,I.ok.has⟩)
section
variable {X:Cx}{σ:L2.St}{H Hf:Hp}{scope:Q0}
theorem xj.closed (Z:xj X) (hf:bK scope X.env=true):∀x∈scope.names,x.2=.free->∃c,X.env.cells.lookup x.1=some c:=fun x hx hk=>Z.has x.1 (ik hf hx hk)
theorem xj.sub (Z:xj X) (hf:bK scope X.env=true) {x:Str}{c:Addr} (h:(W6 X.env scope.names []).lookup x=some c):X.env.cells.lookup x=some c:=by
 obtain ⟨y,hm,e⟩:=dG h
 subst e
 rcases gD (Z.closed hf) hm with q|q
 ·cases q
 ·exact q
theorem xj.cel (Z:xj X) (hf:bK scope X.env=true) {b:Addr} (h:iJ (W6 X.env scope.names []) b):iJ X.env.cells b:=let ⟨x,e⟩:=h;⟨x,Z.sub hf e⟩
theorem xj.lsc (Z:xj X) (hf:bK scope X.env=true) (k1:scope.kind=.function) (k2:scope.isCoroutine=false) (k3:scope.isGenerator=false) (k4:∀x∈scope.names,x.2≠.cell):lV (W6 X.env scope.names []) scope :=
 ⟨k1,k2,k3,k4,fun x y c h1 h2=>Z.inj x y c (Z.sub hf h1) (Z.sub hf h2),fun x h=>by
  obtain ⟨y,hm,e⟩:=dG h
  subst e
  obtain ⟨c,hc⟩:=eS (env:=X.env) (acc:=[]) hm
  exact bu hc⟩
theorem xj.celk (Z:xj X) (hf:bK scope X.env=true) (fz:qw X σ H Hf):wN (W6 X.env scope.names []) Hf:=fun x c h=>fz.cell x c (Z.sub hf h)
theorem xj.st (Z:xj X) (hf:bK scope X.env=true) (fz:qw X σ H Hf) {N:List Str}{ix:List (Option Nat)} (hx:jl scope X.N N ix=true):DZ (W6 X.env scope.names []) scope N Hf (iQ ix σ):=by
 refine ⟨by unfold iQ;rw[d6];exact lE hx,fun j x v h1 h2=>?_⟩
 obtain ⟨i,h3,h4⟩:=vN h2
 obtain ⟨y,e1,e2,e3⟩:=lF hx h3
 rw[h1] at e1
 cases e1
 obtain ⟨y,hm,e⟩:=dG e3
 subst e
 obtain ⟨c,oc,u,c1,c2,c3,c4⟩:=fz.val i y v e2 h4 (ik hf hm rfl)
 obtain ⟨d,hd⟩:=eS (env:=X.env) (acc:=[]) hm
 obtain ⟨d',hd'⟩:=bu hd
 have z:=Z.sub hf hd'
 rw[c1] at z
 cases z
 exact ⟨e3,c,oc,u,hd',c2,c3,c4⟩
theorem qw.same (fz:qw X σ H Hf):i7 H Hf:=fun b o e=>by rw[fz.out b (fun z=>by rw[fz.none b z] at e;cases e)];exact e
theorem qw.inner (fz:qw X σ H Hf) (Z:xj X) (hf:bK scope X.env=true):i7 H (cQ (W6 X.env scope.names []) Hf):=fun b o e=>by
 have nc:¬ iJ X.env.cells b:=fun z=>by rw[fz.none b z] at e;cases e
 rw[P3 fun z=>nc (Z.cel hf z)]
 exact fz.same b o e
theorem qw.back (fz:qw X σ H Hf) {H':Hp} (g:i7 Hf H'):i7 H (cQ X.env.cells H'):=fun b o e=>by
 have nc:¬ iJ X.env.cells b:=fun z=>by rw[fz.none b z] at e;cases e
 rw[P3 nc]
 exact g b o (fz.same b o e)
end
theorem zA (g:i7 (cQ cl H) H'):i7 H (xb cl H H'):=fun b o e=>by
 by_cases z:iJ cl b
 ·rw[xY z];exact e
 ·rw[dj z];exact g b o (by rw[P3 z];exact e)
noncomputable def JR (P:j6) (w:r9) (K:m9) (mg:Str->Option b9) (base:Heap) (k:Nat) (f c:Addr) (name qual:Str) (params:dN) (body:Expr) (scope:Q0) (cl:List (Str × Addr)) (pm ct:b9) (N:List Str):Sp:=fun vs H Q E =>
 vs=[]/\H f=some (KN (Bp name qual params body scope cl pm c ct))/\Ad qual H c/\wN cl H/\∃σ,DZ cl scope N H σ /\
  ∀(A:A5) (outer:List Env) (s:d7),cE k (A.deeper (oM qual scope s.heap.objs.size f (.ref c) cl))->∃t,PE (si P w K mg base N qual scope f (.ref c) cl A outer s (cQ cl H) (fun C d H'=>E C d (xb cl H H'))) body t/\t σ (cQ cl H) (fun v H'=>Q v (xb cl H H'))
theorem nu.kp {q:Str}{l:Addr}{xs:List V} (h:nu q T H) (hl:H l=some (.lst xs)) (k:Kp l H H'):nu q T H':=by
 obtain ⟨ps,h1,h2,h3⟩:=h
 refine ⟨ps,k T _ (fun e=>by rw[e,hl] at h1;cases h1) h1,h2,fun pos v e=>?_⟩
 obtain ⟨c,oc,vs,t,e1,e2,e3,e4⟩:=h3 pos v e
 exact ⟨c,oc,vs,t,e1,k c _ (fun z=>by rw[z,hl] at e2;cases e2) e2,e3,e4⟩
theorem nu.same {q:Str}(h:nu q T H) (g:i7 H H'):nu q T H':=by
 obtain ⟨ps,h1,h2,h3⟩:=h
 refine ⟨ps,g _ _ h1,h2,fun pos v e=>?_⟩
 obtain ⟨c,oc,vs,t,e1,e2,e3,e4⟩:=h3 pos v e
 exact ⟨c,oc,vs,t,e1,g _ _ e2,e3,e4⟩
theorem CU {p:Pos}{t:TA} (C:V4 X.prog X.w X.K X.mg X.base k x ps sp) (hr:cE k X.A) (hg:Gl X x) (ha:PA X (e::es) t)
  (hfn:∀y,X.fn y=true:=by intro y;rfl) (hdb:(x == ("__debug__":Str))=false:=by decide) (he:C4 (e::es) X.env=(false,eval e X.env)::C4 es X.env:=by rfl) (hpl:(aU pos (C4 es X.env)).any (·.1)=false:=by rfl):
  PE X (.Call (.Name x p) (e::es) [] pos) (fun σ H Q=>xj X->Cd X sp t σ H Q):=by
 obtain ⟨f,fd,hm,hk,hb,F⟩:=C.ex
 exact HN (CV F hr hg hm hk hb hfn ha hdb he hpl)
noncomputable def mZ:B0->Bool
 | .list _=>true
 | .tuple _=>true
 | _=>false
section
variable {X:Cx}
end
section
variable {X:Cx}{scope:Q0}{N:List Str}{ix:List (Option Nat)}{elt target iter:Expr}{ifs:List Expr}{pos:Pos}{wi:TI}{g:TG}{tc:TT}
end
section
variable {X:Cx}
noncomputable def tD1 (k v:Int):TE:=fun _ H Q=>∀p,H p=none->Q (.ref p) (n5 H p (.dK [(Z8 k,.int v)]))
theorem Kn {k v:Int}{j1 j2}{p1 p2 pos:Pos}:PE X (.Dict [some (.Constant (.int k) j1 p1)] [.Constant (.int v) j2 p2] pos) (tD1 k v):=by
 intro pins s σ H Q I h
 refine wpAny_Dict_pairs (knd:=el X.prog X.w) (pairs:=[(eval (.Constant (.int k) j1 p1) X.env,do let x <- eval (.Constant (.int v) j2 p2) X.env;standAt pos;pure x)]) rfl (by simp) (by simp) ?_
 refine evalPairs_cons (qL (b8 (qL (b8 (fA (d9 (evalPairs_nil ?_)))))))
 refine ⟨[(Z8 k,_)],⟨?_,rfl,trivial⟩,Heap.DictOf.new s.heap,fun h' dd hs=>?_⟩
 ·exact (by simp[nS,Ak]:nS (Z8 k) (.int k s.toks)=true)
 ·exact ⟨.ref s.heap.objs.size,_,I.laid (a:=s.heap.objs.size) (o:=.dK [(Z8 k,.int v)]) (t':=_) (fun b u q=>(hs.2 b (v8 (j7 q))).trans (f9 _ q)) (i8 _)
   ⟨by show 1<=i6;decide,beq_eq_false_iff_ne.mpr (J9 (v8 I.bigger)),_,.cons ⟨rfl,⟨_,rfl⟩⟩ .nil,dd⟩,rfl,h _ (I.hok.fresh (i8 _))⟩
theorem yi (l:Addr) (items:Array b9) (n:Nat) (dd:Option Addr) (sl:Array (Option b9)) (t:Tok) (xs:Array b9) (k:Nat) (hk:k=5) (hm1:1<=items.size) (hm:items.size<=4) (hx:(A7 k items).foldl (·++·) #[]=xs) (hs:xs.size<=20):
  Eh (bD.«tuple.__mul__» ⟨[.ref l,.int (k:Int) t],[]⟩) (fun _ R s=>s.heap.get? l=some { cls:=.type "tuple",dict:=dd,data:=.seq items n,slots:=sl } /\
   R (.ok (.ret (.ref s.heap.objs.size))) { s with heap:=s.heap.push { cls:=.type "tuple",data:=.seq xs } }):=
 .of_wp fun prog w A R s h=>by
  obtain ⟨hp,g,d,tk,os⟩:=s;obtain ⟨hl,h⟩:=h
  wp_walk
  have hne:items.isEmpty=false:=by
   unfold Array.isEmpty
   exact decide_eq_false (by lia)
  rw[if_neg (by rw[hne,hk];decide)]
  wp_walk
  rw[if_neg (by
   rw[hk]
   have:items.size=1 ∨ items.size=2 ∨ items.size=3 ∨ items.size=4:=by lia
   rcases this with e|e|e|e <;> rw[e] <;> decide)]
  simp only[S0,hx]
  wp_walk
  have hz:¬ xs.size > i6:=by
   have z:20<i6:=by decide
   lia
  have hy:¬ Builtin.Tuple.tupleTooMany ((items.size:Int)*((k:Nat):Int))=true:=by
   rw[hk]
   have:items.size=1 ∨ items.size=2 ∨ items.size=3 ∨ items.size=4:=by lia
   rcases this with e|e|e|e <;> rw[e] <;> decide
  rw[if_neg hy]
  wp_walk
  exact ⟨_,rfl,h⟩
theorem Ba (xs:List b9):(A7 5 xs.toArray).foldl (·++·) #[]=(A7 5 xs).flatten.toArray:=by
 apply Array.toList_inj.mp
 simp[Z2]
noncomputable def Kd:R2:=fun x y H Q=>∃(a:Addr) (xs:List V),x=.ref a/\y=.int 5/\H a=some (.tup xs)/\1<=xs.length/\xs.length<=4/\∀p H',i7 H H'->H' p=some (.tup (A7 5 xs).flatten)->Q (.ref p) H'
theorem rF {xs:List V}{us:List b9} (r:M9 xs us):∀n:Nat,M9 (A7 n xs).flatten (A7 n us).flatten
 | 0=>.nil
 | n+1=>by rw[Z2,Z2,EG,EG];exact r.append (rF r n)
theorem Fc:jC X (W8 .Mult) Kd:=by
 intro pins s σ H x y w' u Q I rx ry h
 obtain ⟨a,xs,rfl,rfl,ha,h1,h4,q⟩:=h
 cases rx
 obtain ⟨t,rfl⟩:=ry
 obtain ⟨its,r,p1,_⟩:=I.tuple (dH.of (K:=X.K) ha)
 obtain ⟨⟨cls,dd,data,sl⟩,ho,hc,n,hd⟩:=id p1
 simp only at hc hd
 subst hc hd
 have hl:=r.length
 refine iV (T:="tuple") (U:="int") (by decide) ⟨_,ho,rfl⟩ (fun s'=>iK s' 5 t) cR vd cI ie F.slot_int_index.lookup
  (dq cI (iK s 5 t) sT (qS _ _) (ky 5 t a _ n dd sl) ⟨ho,rfl,⟨_,ho,rfl⟩,?_⟩)
 refine dq jH ⟨_,ho,rfl⟩ iU (gT _ _) (yi a its.toArray n dd sl t _ 5 rfl (by rw[n9];lia) (by rw[n9];lia) (Ba its) (by rw[n9];simp[Z2];lia)) ⟨ho,?_⟩
 refine ⟨.ref s.heap.objs.size,_,I.laid (t':=s.toks) (o:=.tup (A7 5 xs).flatten) (fun b ob q=>f9 _ q) (i8 _) ?_,rfl,q _ _ (i7.new (I.hok.fresh (i8 _))) f7⟩
 have hz:(A7 5 xs).flatten.length<=i6:=by
  have z:20<=i6:=by decide
  refine n6 ?_ z
  simp[Z2];lia
 exact ⟨hz,_,rF r _,fC _ _⟩
end
section
variable (P:j6) (w:r9)
end
section
variable {P:j6}{w:r9}{H H':Hp}{h h':Heap}{a:Addr}{o:HO}
end
section
variable {P:j6}{w:r9}{H:Hp}{h h':Heap}{x e:Addr}{o':HO}
end
section
variable {fs fs' ex ex':List Addr}{H H1 H2:Hp}{h h1 h2 h':Heap}{a x e:Addr}{o:HO}
end
section
variable {X:Cx}{pins:List (Addr × Obj)}{σ:List (Option V)}{H H':Hp}{s:d7}{h':Heap}
end
section
variable {X:Cx}
variable {a b:Expr}{ta tb:TE}{pos:Pos}
variable {tA tB':TT}{gj:List Expr}
end
section
variable {X:Cx}{pins:List (Addr × Obj)}{σ:St}{H:Hp}{s:d7}{a:Addr}{xs ys:List V}
end
section
variable {X:Cx}{pins:List (Addr × Obj)}{σ:St}{H:Hp}{s:d7}{E:b9->d7->Prop}
end
section
variable {X:Cx}{st:Stmt}{gj:List Stmt}{t u:TS}{e:Expr}{te:TE}{pos:Pos}
end
section
variable {X:Cx}{pos:Pos}
end
section
variable {X:Cx}{tg:Expr}
end
section
variable {X:Cx}{a b c:Expr}{ta tb tc:TE}{pos:Pos}
end
section
variable {prog:j6}{w:r9}{A:A5}{E:b9->d7->Prop}{s:d7}{K:m9}{x dx C f:Addr}{mA:Str->Option b9}{name:Str}{v:b9}
end
section
variable {P:j6}{w:r9}{H H':Hp}{h h':Heap}{a C dx:Addr}{fs fs':List (Str × V)}
end
section
variable {X:Cx}{pins:List (Addr × Obj)}{σ:St}{H:Hp}{s:d7}{a C dx:Addr}{fs:List (Str × V)}{f:Str}{v:V}{A:A5}{E:b9->d7->Prop}
end
section
variable {X:Cx}{o e value:Expr}{f:Str}{pos pos' tpos:Pos}{ta tv:TE}
end
section
variable {X:Cx}{pins:List (Addr × Obj)}{σ:St}{H:Hp}{s:d7}{A:A5}{E:b9->d7->Prop}{Q:b9->d7->Prop}{c:b9}{b:Bool}
end
section
variable {X:Cx}{e:Expr}{es:List Expr}{te:TE}{t:TA}{pos:Pos}
end
section
variable {X:Cx}{pins:List (Addr × Obj)}{σ:St}{H:Hp}{s s':d7}
end
section
variable {X:Cx}{CX:yQ}{k:Nat}{f C:Addr}{fd:D6}{ps:List Str}{sp:Sp}{dvs:List V}{ds:List b9}{E:XK}{x m:Str}{p pos apos:Pos}{e o:Expr}{es:List Expr}{ta:TE}{t:TA}
end
section
variable {X:Cx}{CX:yQ}{k:Nat}{f C:Addr}{fd:D6}{ps ks:List Str}{sp:Sp}{E:XK}{x m:Str}{p pos apos kpos:Pos}{e o:Expr}{es:List Expr}{kws:List oo}{te ta:TE}{t tk:TA}{nm:Option Str}
variable {g:List b9->List b9->List b9}{gV:List V->List V->List V}
end
section
variable {X:Cx}{x:Str}{p pos:Pos}{e:Expr}{es:List Expr}{t:TA}{id T:String}{r:List V->Hp->VK->Prop}
end
section
variable {κ:Type} [DecidableEq κ]
end
theorem KJ {k:jt}{u:b9} (r:Q4 (kV k) u):(el P w).is k u=true:=by
 cases k with
 | inl i=>obtain ⟨t,e⟩:=(show ∃t,u=oO i t from r);subst e;exact vX P w i t
 | inr x=>obtain ⟨t,e⟩:=(show ∃t,u=wV x t from r);subst e;exact vW P w x t
theorem rX {P:j6}{w:r9}:∀{ks:List jt}{us:List b9},M9 (ks.map kV) us->ItemsAre (el P w) ks us
 | [],_,r=>by rw[yU] at r;cases r;exact .nil
 | k::ks,_,r=>by
  rw[B7] at r
  cases r with
  | cons h t=>exact .cons (KJ h) (rX t)
section
variable {P:j6}{w:r9}{H:Hp}{h:Heap}{a:Addr}
theorem Gd {u:HO} (ok:cV P w H h) (e:Rd H a u):P5 P w H h a u:=e.ok ok
theorem DD {ks:List jt} (ok:cV P w H h) (e:H a=some (.tup (ks.map kV))):(LO (el P w)).is h ks a:=by
 obtain ⟨_,its,r,o,h1,h2,n,h3⟩:=(show P5 P w H h a (.tup (ks.map kV)) from ok a _ e)
 exact ⟨o,its.toArray,n,h1,h2,h3,by simpa using rX r⟩
end
section
variable {X:Cx}{pins:List (Addr × Obj)}{σ:St}{H:Hp}{s:d7}{a:Addr}{y v:V}{u r:b9}{o:Option V}{A:A5}{E:b9->d7->Prop}
theorem E6.big (I:E6 X pins σ H s):aa<s.heap.objs.size:=by
 have h:t9<s.heap.objs.size:=(I.mod.glob.keeps I.bk).lt
 exact LZ (by decide) h
theorem zP {h':Heap}{t':Nat}{ob:HO} (I:E6 X pins σ H s) (mu:Le (H a)) (hs:K3 a s.heap h') (he:∃q,h'.get? a=some q) (new:P5 X.prog X.w (n5 H a ob) h' a ob):
  E6 X pins σ (n5 H a ob) { s with heap:=h',toks:=t' } :=
 I.write (x:=a) (e:=a) mu (.inl rfl) (fun b q hb z=>(hs.2 b hb).trans z) he new
end
section
variable {X:Cx}{pins:List (Addr × Obj)}{σ:St}{H:Hp}{s:d7}{a:Addr}{kvs:List (jt × V)}{k:jt}{u:b9}{A:A5}{E:b9->d7->Prop}
end
noncomputable def IH (i:Expr):Prop:=∀ov iv,wR i false ov iv=operate [ov,iv] (kW ov iv)
theorem EN {prog:j6}{value slice:Expr}{T id:String}{Q:b9->d7->Prop}
  (hl:Jq (.type T) "__getitem__"=pure (some (.builtin id))) (hs:IH slice)
  (h:m6 (t8 prog w) A (eval value env) (fun o s₁=>m6 (t8 prog w) A (eval slice env) (fun i s₂=>s₂.TypeIs o T/\m6 (t8 prog w) A (kW o i) Q E s₂) E s₁) E s):
  m6 (t8 prog w) A (eval (.Subscript value slice pos) env) Q E s:=by
 refine Jx (K5 h (fun o s₁ h₁=>K5 h₁ (fun i s₂ h₂=>?_) fun _ _ x=>x) fun _ _ x=>x)
 obtain ⟨hT,h₂⟩:=h₂
 unfold BE
 refine b8 ?_
 rw[getitemInPython_of_ne hT.not_modules]
 refine b8 (fW hT hl ?_)
 have fin:m6 (t8 prog w) A (wR slice false o i) (fun r s₃=>m6 (t8 prog w) A (letTemporaryGo value o r >>= fun _=>pure r) Q E s₃) E s₂:=by
  rw[hs o i]
  exact wpAny_operating (K5 h₂ (fun r s₃ h₃=>b8 (wpAny_letTemporaryGo (d9 h₃))) fun _ _ x=>x)
 first
  | exact d9 (b8 fin)
  | exact b8 (d9 (b8 fin))
  | exact b8 fin
section
variable {X:Cx}{o i e value:Expr}{pos pos' tpos:Pos}{td ty tv:TE}
end
section
variable {X:Cx}{pos:Pos}
end
structure M1 (X:Cx) (o:Expr) (m:Str) (apos:Pos) (e:Expr) (cpos:Pos):Prop where
 base:qF o m X.env (eval o X.env)=eval o X.env
 few:((aU cpos (C4 [e] X.env)).all (fun x=>!x.1)&&(backToKw cpos (Gu [] X.env)).all (fun x=>x.1.isSome)
  && decide (([e]:List Expr).length+([]:List oo).length+(if ([]:List oo).isEmpty then 0 else 1)<30))=true
 line:(apos.endLine == cpos.line)=true
 trees:aU cpos (C4 [e] X.env)=[(false,eval e X.env)]
structure M2 (X:Cx) (o:Expr) (m:Str) (apos:Pos) (e f:Expr) (cpos:Pos):Prop where
 base:qF o m X.env (eval o X.env)=eval o X.env
 few:((aU cpos (C4 [e,f] X.env)).all (fun x=>!x.1)&&(backToKw cpos (Gu [] X.env)).all (fun x=>x.1.isSome)
  && decide (([e,f]:List Expr).length+([]:List oo).length+(if ([]:List oo).isEmpty then 0 else 1)<30))=true
 line:(apos.endLine == cpos.line)=true
 trees:aU cpos (C4 [e,f] X.env)=[(false,eval e X.env),(false,eval f X.env)]
section
variable {X:Cx}{pins:List (Addr × Obj)}{σ:St}{H:Hp}{s:d7}{a:Addr}{y d:V}{u r:b9}{o:Option V}{A:A5}{E:b9->d7->Prop}
end
section
variable {X:Cx}{o e f:Expr}{apos cpos:Pos}{td ty tx:TE}
end
section
variable {X:Cx}{pins:List (Addr × Obj)}{σ:St}{H:Hp}{s:d7}{a:Addr}{kvs:List (jt × V)}{A:A5}{E:b9->d7->Prop}
end
section
variable {X:Cx}{pins:List (Addr × Obj)}{σ:St}{H:Hp}{s:d7}{a:Addr}{y:V}{u:b9}{A:A5}{E:b9->d7->Prop}
end
end L2
namespace Att
open PySem PySem.W PySem.Calls PyProof.Rows
section
variable {prog:j6}{w:r9}{A:A5}{E:b9->d7->Prop}{s:d7}{K:Frag}
end
end Att
namespace L2
open PySem PySem.Spec PyProof.Rows
section
variable {P:j6}{w:r9}{K:m9}{mg:Str->Option b9}{base:Heap}
end
section
variable {X:Cx}
end
section
variable {κ:Type} [DecidableEq κ]
end
section
variable {prog:j6}{w:r9}{A:A5}{E:b9->d7->Prop}{s:d7}
noncomputable abbrev DL (it:Addr):Obj:={ cls:=.type "enumerate",data:=.fields #[.none,.bool false,.ref it,X3 0,.none,.none] }
theorem Bc (t:Addr) (xs:Array b9):
  Eh (bD.«enumerate.__new__» ⟨[.type "enumerate",.ref t],[]⟩) (fun _ R s=>s.heap.IsTuple t xs/\R (.ok (.ret (.ref (s.heap.push (JG t)).objs.size))) { s with heap:=(s.heap.push (JG t)).push (DL s.heap.objs.size) }):=
 .of_wp fun prog w A R s h=>by
  obtain ⟨hp,g,d,tk,os⟩:=s;obtain ⟨hl,h⟩:=h
  have hsub:=sub_enumerate
  have hL:LA (yR ⟨hp,g,d,tk,os⟩) t xs:=hl
  obtain ⟨ol,hol,_⟩:=id hl
  wp_walk using bE hol
  refine wpAny_stack_any fun st=>d9 ?_
  split
  ·rename_i c _ _ _ _ _
   cases (c == LW "enumerate")
   ·wp_walk using bE hol,aR hL
    exact ⟨_,rfl,h⟩
   ·wp_walk using bE hol,aR hL
    exact ⟨_,rfl,h⟩
  ·wp_walk using bE hol,aR hL
   exact ⟨_,rfl,h⟩
structure LJ (h:Heap) (e it t:Addr) (k:Nat):Prop where
 en:∃old,EH h e it k old
 it:h.IsTupleIter it t k
variable {t:Addr}{xs:Array b9}
theorem DM {e it:Addr}{i:Nat}{x:b9}{Q:Option b9->d7->Prop} (Z:LJ s.heap e it t i) (hl:s.heap.IsTuple t xs) (hx:xs[i]?=some x) (hne:e≠it)
  (hQ:∀h',Mf h' e it ((i:Int)+1) x s.heap.objs.size->h'.IsTupleIter it t (i+1)->h'.get? s.heap.objs.size=some { cls:=.type "tuple",data:=.seq #[.int i s.toks,x] }->h'.objs.size=s.heap.objs.size+1 ->
   (∀b o,b ∉ [e,it]->s.heap.get? b=some o->h'.get? b=some o)->Q (some (.ref s.heap.objs.size)) { s with heap:=h',toks:=s.toks+1 }):m6 (t8 prog w) A (bQ (.ref e)) Q E s:=by
 obtain ⟨⟨old,he⟩,hit⟩:=Z
 obtain ⟨hp,g,d,tk,os⟩:=s
 have hT:kZ ⟨hp,g,d,tk,os⟩ (.ref e) "enumerate":=⟨_,he,rfl⟩
 unfold bQ
 refine b8 (V8 (F0 (name:=U6 "__next__") hT eJ (E8 eJ hT BQ ?_ (Bw _))))
 show m6 _ _ (qD (.ref e) 2 >>= _) _ _ _
 refine b8 (E5 he rfl (x:=.ref it) rfl ?_)
 refine b8 (pW hit hl hx fun h1 hit1 s1=>?_)
 replace s1:K3 it hp h1:=s1
 have he1:EH h1 e it i old:=(s1.2 e hne).trans he
 show m6 _ _ (qD (.ref e) 3 >>= _) _ _ ⟨h1,g,d,tk,os⟩
 refine b8 (E5 he1 rfl (x:=X3 i) rfl ?_)
 show m6 _ _ (qD (.ref e) 4 >>= _) _ _ ⟨h1,g,d,tk,os⟩
 refine b8 (E5 he1 rfl (x:=.none) rfl ?_)
 show m6 _ _ (mkInt i >>= _) _ _ ⟨h1,g,d,tk,os⟩
 refine b8 (wpAny_mkInt ?_)
 show m6 _ _ (nW (.ref e) 3 (X3 ((i:Int)+1)) >>= _) _ _ ⟨h1,g,d,tk+1,os⟩
 refine b8 (F5 he1 (by simp) fun h2 he2 s2=>?_)
 replace s2:K3 e h1 h2:=s2
 replace he2:EH h2 e it ((i:Int)+1) old:=he2
 show m6 _ _ (nW (.ref e) 4 .none >>= _) _ _ ⟨h2,g,d,tk+1,os⟩
 refine b8 (F5 he2 (by simp) fun h3 he3 s3=>?_)
 replace s3:K3 e h2 h3:=s3
 replace he3:EH h3 e it ((i:Int)+1) old:=he3
 show m6 _ _ (Gs [.int i tk,x] >>= _) _ _ ⟨h3,g,d,tk+1,os⟩
 refine b8 (nU ?_)
 have he4:EH (h3.push { cls:=.type "tuple",data:=.seq #[.int i tk,x] }) e it ((i:Int)+1) old:=f9 _ he3
 generalize hh4:h3.push { cls:=.type "tuple",data:=.seq #[.int i tk,x] }=h4 at he4
 have hsz:h3.objs.size=hp.objs.size:=by rw[s3.1,s2.1,s1.1]
 have hel:e<hp.objs.size:=j7 he
 have ht4:h4.get? hp.objs.size=some { cls:=.type "tuple",data:=.seq #[.int i tk,x] }:=by rw[<- hh4,<- hsz];exact t7 _ rfl
 have hz4:h4.objs.size=hp.objs.size+1:=by rw[<- hh4,G3,hsz]
 have hk4:∀b o,b≠e->b≠it->hp.get? b=some o->h4.get? b=some o:=fun b o hbe hbi hb=>by
  rw[<- hh4];exact f9 _ (s3.extBut b o hbe (s2.extBut b o hbe (s1.extBut b o hbi hb)))
 have hit4:h4.IsTupleIter it t (i+1):=by
  rw[<- hh4]
  exact hit1.at fun o e'=>f9 _ (s3.extBut _ o (J9 hne) (s2.extBut _ o (J9 hne) e'))
 show m6 _ _ (K8 (.ref e) >>= _) _ _ ⟨h4,g,d,tk+1,os⟩
 rw[hsz]
 clear hh4 he3 s3 he2 s2 he1 s1 hit1 hsz h3 h2 h1
 refine b8 ?_
 unfold K8
 refine b8 (E5 he4 rfl (x:=.none) rfl (d9 ?_))
 simp only[if_true]
 refine b8 (P1 ?_)
 refine b8 (E5 he4 rfl (x:=old) rfl ?_)
 refine b8 (F5 he4 (by simp) fun h5 he5 s5=>?_)
 replace s5:K3 e h4 h5:=s5
 replace he5:EH h5 e it ((i:Int)+1) x:=he5
 show m6 _ _ (T5 (.ref e) (.ref hp.objs.size) >>= _) _ _ ⟨h5,g,d,tk+1,os⟩
 refine b8 ?_
 unfold T5
 refine b8 (F5 he5 (by simp) fun h6 he6 s6=>?_)
 replace s6:K3 e h5 h6:=s6
 replace he6:Mf h6 e it ((i:Int)+1) x hp.objs.size:=he6
 refine F5 he6 (by simp) fun h7 he7 s7=>?_
 replace s7:K3 e h6 h7:=s7
 replace he7:Mf h7 e it ((i:Int)+1) x hp.objs.size:=he7
 refine b8 (wQ (d9 ⟨_,rfl,d9 (hQ h7 he7 ?_ ?_ ?_ ?_)⟩))
 ·exact hit4.at fun o e'=>s7.extBut _ o (J9 hne) (s6.extBut _ o (J9 hne) (s5.extBut _ o (J9 hne) e'))
 ·exact s7.extBut _ _ (F6 hel) (s6.extBut _ _ (F6 hel) (s5.extBut _ _ (F6 hel) ht4))
 ·show h7.objs.size=hp.objs.size+1
  rw[s7.1,s6.1,s5.1,hz4]
 ·intro b o hb e'
  simp only[B6,C3,or_false,not_or] at hb
  exact s7.extBut b o hb.1 (s6.extBut b o hb.1 (s5.extBut b o hb.1 (hk4 b o hb.1 hb.2 e')))
theorem Fy {e it:Addr}{i:Nat}{Q:Option b9->d7->Prop} (hh:A.handled=none) (Z:LJ s.heap e it t i) (hl:s.heap.IsTuple t xs) (hx:xs[i]?=none)
  (hQ:∀h',kO it s.heap h'->Q none { s with heap:=h' }):m6 (t8 prog w) A (bQ (.ref e)) Q E s:=by
 obtain ⟨⟨old,he⟩,hit⟩:=Z
 have hT:s.TypeIs (.ref e) "enumerate":=⟨_,he,rfl⟩
 unfold bQ
 refine b8 (V8 (F0 (name:=U6 "__next__") hT eJ (E8 eJ hT BQ ?_ (Bw _))))
 show m6 _ _ (qD (.ref e) 2 >>= _) _ _ _
 refine b8 (E5 he rfl (x:=.ref it) rfl ?_)
 refine b8 (rR hh hit hl hx fun h' x he' hx'=>?_)
 obtain ⟨o,ho,hc⟩:=hx'
 exact b8 (aA (T:="StopIteration") (b:=true) ⟨o,ho,hc⟩ nY (d9 (hQ _ he')))
theorem yK {Q:b9->d7->Prop} (hl:s.heap.IsTuple t xs)
  (h:∀h',LJ h' (s.heap.objs.size+1) s.heap.objs.size t 0->(∀c o,s.heap.get? c=some o->h'.get? c=some o)->h'.objs.size=s.heap.objs.size+2->Q (.ref (s.heap.objs.size+1)) { s with heap:=h' }):
  m6 (t8 prog w) A (call (.type "enumerate") [.ref t]) Q E s:=by
 refine callType_new F.called_enumerate (by decide) (F.typeCall_enumerate_1 _) (F.newCall_enumerate_1 _) (fun obj=>F.args_object_init_2 obj _) F.entry_enumerate_new (Bc t xs) ⟨hl,?_⟩
 simp only[G3]
 have e1:((s.heap.push (JG t)).push (DL s.heap.objs.size)).get? (s.heap.objs.size+1)=some (DL s.heap.objs.size):=by
  have:((s.heap.push (JG t)).push (DL s.heap.objs.size)).get? (s.heap.push (JG t)).objs.size=some (DL s.heap.objs.size):=t7 _ rfl
  rwa [G3] at this
 refine ⟨⟨_,e1,rfl⟩,h _ ⟨⟨_,e1⟩,⟨_,f9 _ (t7 _ rfl),rfl,rfl⟩⟩ (fun c o e=>f9 _ (f9 _ e)) (by simp only[G3])⟩
end
section
variable {X:Cx}{pins:List (Addr × Obj)}{σ:St}{H:Hp}{s:d7}
noncomputable def Jo (K:m9) (a:Addr):It :=
 ⟨fun i H=>∃xs x,dH K H a xs/\xs[i]?=some x,fun i H v H'=>∃p x,H p=none/\v=.ref p/\H'=n5 H p (.tup [.int i,x])/\∀xs,dH K H a xs->xs[i]?=some x,fun i H=>∃xs,dH K H a xs/\xs.length<=i⟩
theorem E6.yieldPair {h2:Heap}{t':Nat}{fp:List Addr}{x y:V}{u v:b9} (I:E6 X pins σ H s) (hf:∀b∈fp,oj X pins H b) (k2:∀c o,c ∉ fp->s.heap.get? c=some o->h2.get? c=some o)
  (e0:h2.get? s.heap.objs.size=some { cls:=.type "tuple",data:=.seq #[u,v] }) (ru:Q4 x u) (rv:Q4 y v):E6 X pins σ (n5 H s.heap.objs.size (.tup [x,y])) { s with heap:=h2,toks:=t' }:=by
 have hn:H s.heap.objs.size=none:=I.hok.fresh (i8 _)
 have pne:∀c o,s.heap.get? c=some o->c≠s.heap.objs.size:=fun c o e=>v8 (j7 e)
 have nit:∀c u,H c=some u->c ∉ fp:=fun c u e q=>by rw[(hf c q).1] at e;cases e
 have hok:cV X.prog X.w (n5 H s.heap.objs.size (.tup [x,y])) h2:=fun c ob e=>by
  by_cases hq:c=s.heap.objs.size
  ·subst hq
   rw[f7] at e;cases e
   exact ⟨by show 2<=i6;decide,[u,v],.cons ru (.cons rv .nil),⟨_,e0,rfl,_,rfl⟩⟩
  ·rw[C0 hq] at e
   refine (I.hok c ob e).stay (fun d w' hd q=>k2 d w' ?_ q) (fun d q=>by rw[C0 (v5 q hn)];exact q) fun d xs q=>by rw[C0 (v5 q hn)];exact q
   rcases hd with rfl|hd
   ·exact nit d ob e
   ·exact nit d _ hd
 refine I.step (g':=s.gens) (d':=s.drawn) (t':=t') (ch:=fp) (fun c hc=>⟨(hf c hc).2.2.2.1,(hf c hc).2.1,(hf c hc).2.2.2.2.1,(hf c hc).2.2.2.2.2⟩) (fun c o _ _ hc e _=>k2 c o hc e) (fun c o _ _ hc e _=>⟨o.slots,k2 c o hc e⟩)
  (fun c o _ e n=>by rw[C0 (pne c o e)];exact n) (fun c o hc e=>⟨o,k2 c o hc e⟩) (fun c xs e=>by rw[C0 (v5 e hn)];exact e) (fun c o u e=>by rw[C0 (v5 e hn)];exact e) (fun c ps e=>⟨#[],by rw[C0 (v5 e hn),e];simp⟩) (fun m hm=>?_) hok I.bare
 obtain ⟨o,es,ep,ho,r⟩:=hm
 exact ⟨o,es,ep,k2 _ o (fun q=>(hf _ q).2.1 rfl) ho,r⟩
theorem xy {P:j6}{w:r9}{K:m9}{es:List Expr}{kk:Nat}{pos:Pos}{a e it:Addr} (hne:e≠it):
  uG P w K (.Tuple es kk pos) (Jo K a) [e,it] e (fun i h=>LJ h e it a i) where
 mem:=by simp
 obj:=fun i h st c hc=>by
  obtain ⟨⟨_,he⟩,⟨_,h1,_,d1⟩⟩:=st
  simp only[B6,C3,or_false] at hc
  rcases hc with rfl|rfl
  ·exact ⟨_,he,fun v q=>by cases q⟩
  ·exact ⟨_,h1,fun v q=>by rw[d1] at q;cases q⟩
 keep:=fun i h h' st k=>⟨let ⟨old,he⟩:=st.en;⟨old,k _ (by simp) _ he⟩,st.it.at fun o e=>k _ (by simp) o e⟩
 item:=by
  intro X hP hw hK hc i pins s σ H E I hf st hg
  subst hP hw hK
  obtain ⟨xs,x,ha,hx⟩:=hg
  obtain ⟨its,r1,p1,_⟩:=I.tuple ha
  obtain ⟨u,hu,ru⟩:=r1.get hx
  refine DM st (show s.heap.IsTuple a its.toArray from p1) (x:=u) (by simpa using hu) hne fun h' z1 j1 new sz keep=>?_
  refine ⟨_,rfl,wpAny_letOwnedTupleGo_enum (s:={ s with heap:=h',toks:=s.toks+1 }) z1 fun h2 z2 sb=>?_⟩
  have elt:e<s.heap.objs.size:=let ⟨_,he⟩:=st.en;j7 he
  have ilt:it<s.heap.objs.size:=let ⟨_,h1,_⟩:=st.it;j7 h1
  have k2:∀c o,c ∉ [e,it]->s.heap.get? c=some o->h2.get? c=some o:=fun c o hc q=>sb.extBut _ _ (fun z=>hc (by simp[z])) (keep c o hc q)
  have e0:h2.get? s.heap.objs.size=some { cls:=.type "tuple",data:=.seq #[.int i s.toks,u] }:=sb.extBut _ _ (F6 elt) new
  have hn:H s.heap.objs.size=none:=I.hok.fresh (i8 _)
  refine ⟨.ref s.heap.objs.size,_,I.yieldPair (t':=s.toks+1) (x:=.int i) (y:=x) hf k2 e0 ⟨_,rfl⟩ ru,rfl,⟨_,x,hn,rfl,rfl,fun xs' h'=>by rw[I.tuple_inj h' ha];exact hx⟩,?_,fun c hc=>?_⟩
  ·refine ⟨⟨u,?_⟩,j1.at fun o e'=>sb.extBut _ o (J9 hne) e'⟩
   have e1:((i+1:Nat):Int)=(i:Int)+1:=by lia
   rw[e1];exact z2
  ·have hlt:c<s.heap.objs.size:=by
    simp only[B6,C3,or_false] at hc
    rcases hc with rfl|rfl
    ·exact elt
    ·exact ilt
   rw[C0 (v8 hlt)]
   exact (hf c hc).1
 done:=by
  intro X hP hw hK hc i pins s σ H E I hf st hg
  subst hP hw hK
  obtain ⟨xs,ha,hx⟩:=hg
  obtain ⟨its,r1,p1,_⟩:=I.tuple ha
  have hl:=r1.length
  refine Fy (I.ok.hd hc) st (show s.heap.IsTuple a its.toArray from p1) (by simp;lia) fun h' keep=>⟨rfl,I.turnedL (t':=s.toks) (ch:=[e,it]) (fun c o hc e=>keep c o (fun q=>hc (by simp[q])) e) hf⟩
 self:=fun _ _ _ _ _ st h=>let ⟨_,he⟩:=st.en;Lp he h
theorem Bi:X4 "enumerate"=some (.type "enumerate"):=by decide +kernel
noncomputable def KR (K:m9) (ta:TA):TI:=fun σ H R=>ta σ H fun vs H1=>∃a xs,vs=[.ref a]/\dH K H1 a xs/\R (Jo K a) H1
theorem vO {e1:Expr}{es:List Expr}{kk:Nat}{pt p pos:Pos}{ta:TA} (hg:Gl X "enumerate") (hm:X.mg "enumerate"=none) (ha:PA X [e1] ta) (hs:C4 [e1] X.env=[(false,eval e1 X.env)]:=by rfl):
  PI X (.Tuple es kk pt) (.Call (.Name "enumerate" p) [e1] [] pos) (KR X.K ta):=by
 intro pins s σ H R I h
 refine Call_ (mW I hg hm Bi (af (X0 (ha pos pins s σ H _ I h) fun us s1 ⟨vs,H1,I1,r1,q1⟩=>?_) (by rw[hs];rfl) (by rfl)))
 obtain ⟨a,xs,rfl,hx,q⟩:=q1
 cases r1 with
 | cons ra rr =>
  cases rr
  cases ra
  obtain ⟨its,r1,p1,_⟩:=I1.tuple hx
  refine yK (show s1.heap.IsTuple a its.toArray from p1) fun h' Z keep sz=>?_
  obtain ⟨old,he⟩:=id Z.en
  refine Lp (s:={ s1 with heap:=h' }) he ?_
  have I2:E6 X pins σ H1 { s1 with heap:=h' }:=I1.kept (t':=s1.toks) keep
  refine ⟨s1.heap.objs.size+1,[s1.heap.objs.size+1,s1.heap.objs.size],_,_,H1,rfl,I2,xy (by show s1.heap.objs.size+1≠s1.heap.objs.size;lia),Z,fun c hc=>?_,q⟩
  have hge:s1.heap.objs.size<=c:=by
   simp only[B6,C3,or_false] at hc
   rcases hc with rfl|rfl <;> first|exact ag _ _|exact i8 _
  exact I1.fpOk hge (I1.hok.fresh hge)
end
section
variable {prog:j6}{w:r9}{A:A5}{E:b9->d7->Prop}{s:d7}
variable {d:Addr}{Q:b9->d7->Prop}
theorem yy (hd:(d == aa)=false) (hT:s.TypeIs (.ref d) "dict") (h:Q (.ref s.heap.objs.size) { s with heap:=s.heap.push { cls:=.type "dict_items",data:=.fields #[.ref d] } }):
  m6 (t8 prog w) A (call (.builtin "dict.items") [.ref d]) Q E s:=by
 have g:MeetsIn prog w (bD.«dict.items» ⟨[.ref d],[]⟩) (fun _ R s=>s.TypeIs (.ref d) "dict"/\R (.ok (.ret (.ref s.heap.objs.size))) { s with heap:=s.heap.push { cls:=.type "dict_items",data:=.fields #[.ref d] } }):=
  .of_wp fun A R s ⟨hm,h⟩=>by
   unfold bD.«dict.items»
   refine b8 ?_
   unfold Builtin.Dict.noArgs
   refine b8 (FJ hm ?_)
   show m6 _ _ (pure d) _ _ s
   refine d9 ?_
   show m6 _ _ (bX d >>= _) _ _ s
   unfold bX
   rw[if_neg (by rw[hd];exact A0)]
   refine b8 (d9 ?_)
   exact b8 (E4 (d9 ⟨_,rfl,h⟩))
 exact call_meetsIn uL hT PySem.F.entry_dict_items (PySem.F.args_dict_items_1 _) g ⟨hT,h⟩
variable {od:Obj}{es:Array T9}{ep:Nat}
theorem wk {v:Addr}(hv:s.heap.IsItemsView v d) (ho:s.heap.get? d=some od) (hdat:od.data=.dict es ep)
  (hQ:Q (.ref s.heap.objs.size) { s with heap:=s.heap.push { cls:=.type "dict_itemiterator",data:=.fields #[.none,.bool false,.ref d,.int 0 0,.int es.size 0,.int ep 0,.none,.none] } }):
  m6 (t8 prog w) A (nX (.ref v)) Q E s:=by
 obtain ⟨ov,hov,hcv,hdv⟩:=id hv
 refine sE hv.typeIs BP (E8 BP hv.typeIs F.entry_dict_items_iter ?_ (F.args_dict_items_iter_1 _))
 unfold bD.«dict_items.__iter__»
 refine b8 (d9 ?_)
 refine b8 ?_
 unfold Builtin.Dict_items.dictOf
 refine b8 (E5 hov hdv (x:=.ref d) rfl (d9 ?_))
 refine b8 ?_
 unfold Builtin.Dict_items.newIterator
 refine b8 (bB ho hdat ?_)
 refine b8 (cX ho hdat ?_)
 have hown:S2 "dict_itemiterator"=true:=by decide
 simp only[hown,if_true]
 refine E4 (d9 ⟨_,rfl,"dict_itemiterator",_,⟨_,t7 _ rfl,rfl⟩,F.slot_dict_itemiterator_next.lookup,?_⟩)
  (by simp only[sizeOk,gh,n9,v9,A8,S5,aP];lia)
 simpa [X3,gh] using hQ
variable {it:Addr}{i:Nat}{ov:b9}
theorem wm {en:T9}{ok:b9}{Q:Option b9->d7->Prop} (hit:dz s.heap it d i es.size ep ok ov)
  (hod:s.heap.get? d=some od) (hdd:od.data=.dict es ep) (hx:es[i]?=some en)
  (hQ:∀h',BN h' it d (i+1) es.size ep en.key en.val s.heap.objs.size->h'.get? s.heap.objs.size=some { cls:=.type "tuple",data:=.seq #[en.key,en.val] }->h'.objs.size=s.heap.objs.size+1 ->
   (∀b o,b≠it->s.heap.get? b=some o->h'.get? b=some o)->Q (some (.ref s.heap.objs.size)) { s with heap:=h' }):m6 (t8 prog w) A (bQ (.ref it)) Q E s:=by
 obtain ⟨hp,g,dr,tk,os⟩:=s
 have hT:kZ ⟨hp,g,dr,tk,os⟩ (.ref it) "dict_itemiterator":=⟨_,hit,rfl⟩
 unfold bQ
 refine b8 (V8 (F0 (name:=U6 "__next__") hT aG
  (E8 aG hT sU ?_ (rD _))))
 refine b8 (d9 ?_)
 refine b8 ?_
 refine b8 ?_
 first|refine b8 (aw hT (d9 ?_))|refine b8 (cy hT (d9 ?_))
 refine b8 (nV hit rfl ?_)
 have hown:S2 "dict_itemiterator"=true:=by decide
 simp only[hown,if_true]
 show m6 _ _ (if (y6 d == E9)=true then _ else _) _ _ _
 rw[if_neg (show ¬ ((y6 d == E9)=true) from A0)]
 refine b8 (d9 ?_)
 refine b8 (bB hod hdd ?_)
 rw[if_neg (by simp)]
 refine b8 (d9 ?_)
 refine b8 (cX hod hdd ?_)
 rw[if_neg (by simp)]
 refine d9 ?_
 obtain ⟨hlt',hen⟩:=Array.getElem?_eq_some_iff.mp hx
 simp only[show ¬ ((i:Int)<0) from by lia,if_false,S0,hx]
 refine b8 ?_
 first|refine b8 (aw hT (d9 ?_))|refine b8 (cy hT (d9 ?_))
 refine b8 (kU hT ?_)
 show m6 _ _ (nW (.ref it) 3 (X3 ((i:Int)+1)) >>= _) _ _ ⟨hp,g,dr,tk,os⟩
 refine b8 (F5 hit (by simp) fun h1 he1 s1=>?_)
 replace s1:K3 it hp h1:=s1
 replace he1:dz h1 it d (i+1) es.size ep ok ov:=by
  have e:((i+1:Nat):Int)=(i:Int)+1:=by lia
  unfold dz;rw[e];simpa [X3] using he1
 have hT1:kZ ⟨h1,g,dr,tk,os⟩ (.ref it) "dict_itemiterator":=⟨_,he1,rfl⟩
 refine b8 (P9 ?_)
 refine b8 (kU hT1 ?_)
 refine b8 (kU hT1 ?_)
 show m6 _ _ (iB (.ref it) 6 en.key en.val) _ _ ⟨h1,g,dr,tk,os⟩
 unfold iB
 refine b8 (nU ?_)
 have he2:dz (h1.push { cls:=.type "tuple",data:=.seq #[en.key,en.val] }) it d (i+1) es.size ep ok ov:=f9 _ he1
 generalize hh2:h1.push { cls:=.type "tuple",data:=.seq #[en.key,en.val] }=h2 at he2
 have hz1:h1.objs.size=hp.objs.size:=s1.1
 have hil:it<hp.objs.size:=j7 hit
 have ht2:h2.get? hp.objs.size=some { cls:=.type "tuple",data:=.seq #[en.key,en.val] }:=by rw[<- hh2,<- hz1];exact t7 _ rfl
 have hz2:h2.objs.size=hp.objs.size+1:=by rw[<- hh2,G3,hz1]
 have hk2:∀b o,b≠it->hp.get? b=some o->h2.get? b=some o:=fun b o hb e=>by rw[<- hh2];exact f9 _ (s1.extBut b o hb e)
 show m6 _ _ (fZ (.ref it) >>= _) _ _ ⟨h2,g,dr,tk,os⟩
 rw[hz1]
 clear hh2 he1 s1 hT1 hz1 h1
 refine b8 ?_
 unfold fZ
 refine b8 (E5 he2 rfl (x:=.none) rfl (d9 ?_))
 simp only[if_true]
 refine b8 (E5 he2 rfl (x:=ok) rfl ?_)
 refine b8 (E5 he2 rfl (x:=ov) rfl ?_)
 refine b8 (F5 he2 (by simp) fun h3 he3 s3=>?_)
 replace s3:K3 it h2 h3:=s3
 replace he3:dz h3 it d (i+1) es.size ep en.key ov:=he3
 refine b8 (F5 he3 (by simp) fun h4 he4 s4=>?_)
 replace s4:K3 it h3 h4:=s4
 replace he4:dz h4 it d (i+1) es.size ep en.key en.val:=he4
 refine b8 (F5 he4 (by simp) fun h5 he5 s5=>?_)
 replace s5:K3 it h4 h5:=s5
 replace he5:BN h5 it d (i+1) es.size ep en.key en.val hp.objs.size:=he5
 refine b8 (F5 he5 (by simp) fun h6 he6 s6=>?_)
 replace s6:K3 it h5 h6:=s6
 replace he6:BN h6 it d (i+1) es.size ep en.key en.val hp.objs.size:=he6
 refine b8 (wQ (d9 (d9 ⟨_,rfl,d9 (hQ h6 he6 ?_ ?_ ?_)⟩)))
 ·exact s6.extBut _ _ (F6 hil) (s5.extBut _ _ (F6 hil) (s4.extBut _ _ (F6 hil) (s3.extBut _ _ (F6 hil) ht2)))
 ·show h6.objs.size=hp.objs.size+1
  rw[s6.1,s5.1,s4.1,s3.1,hz2]
 ·exact fun b o hb e=>s6.extBut b o hb (s5.extBut b o hb (s4.extBut b o hb (s3.extBut b o hb (hk2 b o hb e))))
theorem yz {ok:b9}{Q:Option b9->d7->Prop} (hh:A.handled=none) (hit:dz s.heap it d i es.size ep ok ov)
  (hod:s.heap.get? d=some od) (hdd:od.data=.dict es ep) (hge:es.size<=i) (hQ:∀h',kO it s.heap h'->Q none { s with heap:=h' }):m6 (t8 prog w) A (bQ (.ref it)) Q E s:=by
 have hT:s.TypeIs (.ref it) "dict_itemiterator":=⟨_,hit,rfl⟩
 unfold bQ
 refine b8 (V8 (F0 (name:=U6 "__next__") hT aG
  (E8 aG hT sU ?_ (rD _))))
 refine b8 (d9 ?_)
 refine b8 ?_
 refine b8 ?_
 first|refine b8 (aw hT (d9 ?_))|refine b8 (cy hT (d9 ?_))
 refine b8 (nV hit rfl ?_)
 have hown:S2 "dict_itemiterator"=true:=by decide
 simp only[hown,if_true]
 show m6 _ _ (if (y6 d == E9)=true then _ else _) _ _ s
 rw[if_neg (show ¬ ((y6 d == E9)=true) from A0)]
 refine b8 (d9 ?_)
 refine b8 (bB hod hdd ?_)
 rw[if_neg (by simp)]
 refine b8 (d9 ?_)
 refine b8 (cX hod hdd ?_)
 rw[if_neg (by simp)]
 refine d9 ?_
 simp only[show ¬ ((i:Int)<0) from by lia,if_false,S0,cN hge]
 refine b8 ?_
 first|refine b8 (aw hT (d9 ?_))|refine b8 (cy hT (d9 ?_))
 show m6 _ _ (nW (.ref it) 2 .none >>= _) _ _ s
 refine b8 (az hit rfl (by simp) ?_)
 show m6 _ _ (Eu (.type "StopIteration") [] >>= _) _ _ _
 refine b8 ?_
 simp only[Eu,Gs]
 refine b8 (E4 ?_ (by size_fits))
 refine b8 (m:=dX _ _) (wO (a:=E9) (by first|rfl | (simp only[dX];rfl)) ?_)
 refine E4 ?_ (by size_fits)
 simp only[raiseNew]
 refine b8 (BB ?_)
 rw[show A.in1.handled=none from hh]
 refine b8 (d9 (Gp ?_))
 refine b8 (aA (T:="StopIteration") (b:=true) ⟨_,t7 _ rfl,rfl⟩ nY ?_)
 exact d9 (hQ _ (((U4 ..).extBut.push _).push _))
theorem jL:entryFor table "dict_itemiterator.__iter__"=some bD.«dict_keyiterator.__iter__»:=entryFor_alias (id':="dict_keyiterator.__iter__") (by kernel_rfl) rfl (by decide +kernel) (by kernel_rfl)
theorem rd {n:Nat}{ok:b9}(h:dz s.heap it d i n ep ok ov) (q:Q (.ref it) s):m6 (t8 prog w) A (nX (.ref it)) Q E s:=by
 have hT:s.TypeIs (.ref it) "dict_itemiterator":=⟨_,h,rfl⟩
 refine sE hT uO (E8 uO hT jL ?_ (F.args_dict_itemiterator_iter_1 _))
 exact d9 ⟨_,rfl,"dict_itemiterator",_,hT,F.slot_dict_itemiterator_next.lookup,q⟩
end
section
variable {X:Cx}{pins:List (Addr × Obj)}{σ:St}{H:Hp}{s:d7}
theorem Paired.get {α β:Type}{F:α->β->Prop}:∀{l:List α}{m:List β}{i:Nat}{a:α},ee F l m->l[i]?=some a->∃b,m[i]?=some b/\F a b
 | _::_,_::_,0,_,.cons r _,h=>by cases h;exact ⟨_,rfl,r⟩
 | _::_,_::_,i+1,_,.cons _ t,h=>by
  obtain ⟨b,e,r⟩:=Paired.get (i:=i) t (by simpa using h)
  exact ⟨b,by simpa using e,r⟩
end
section
variable {X:Cx}
end
section
theorem wk2 {σ0:St} (hσ:σ0[0]?=some none/\σ0[1]?=some none) (x y:V):Wk σ0 ((σ0.set 0 (some x)).set 1 (some y)):=by
 refine ⟨by simp,fun j u e=>?_⟩
 by_cases h1:j=1
 ·subst h1;rw[hσ.2] at e;cases e
 ·rw[G5 (J9 h1)]
  by_cases h2:j=0
  ·subst h2;rw[hσ.1] at e;cases e
  ·rw[G5 (J9 h2)];exact e
theorem DU {K:m9}{a:Addr}{xs:List V}{σ0:St}{tc:TT}{te:TE}{H:Hp}{F:List V->Hp->Prop} (hn:xs.length<=i6) (Pv:Nat->List V->Hp->Prop) (h0:Pv 0 [] H) (hl:∀i ys H,Pv i ys H->ys.length<=i)
  (hq:∀i ys H,i<=xs.length->Pv i ys H->dH K H a xs) (hσ:σ0[0]?=some none/\σ0[1]?=some none)
  (hs:∀i ys H x p,xs[i]?=some x->H p=none->Pv i ys H->tc ((σ0.set 0 (some (.int i))).set 1 (some x)) (n5 H p (.tup [.int i,x])) fun b H5=>if b=true then te ((σ0.set 0 (some (.int i))).set 1 (some x)) H5 (fun z H'=>Pv (i+1) (ys++[z]) H') else Pv (i+1) ys H5)
  (hd:∀ys H,Pv xs.length ys H->F ys H):Bn (Jo K a) σ0 (qi K 2 (bP (V7 0) (bP (V7 1) rj))) tc te H F:=by
 refine ⟨fun i m ys H=>m=xs.length - i/\i<=xs.length/\Pv i ys H,⟨xs.length,by simp,u9 _,h0⟩,?_⟩
 rintro i m ys H2 ⟨rfl,hi,p⟩
 have q:=hq i ys H2 hi p
 have hlen:=hl i ys H2 p
 refine ⟨by lia,?_⟩
 by_cases hlt:i<xs.length
 ·refine .inr ⟨⟨xs,xs[i],q,by simp[hlt]⟩,fun y H'=>Pv (i+1) (ys++[y]) H',fun H'=>Pv (i+1) ys H',fun y H' q=>⟨xs.length - (i+1),by lia,rfl,hlt,q⟩,fun H' q=>⟨xs.length - (i+1),by lia,rfl,hlt,q⟩,fun v H3 yld=>?_⟩
  obtain ⟨r,x,hr,rfl,rfl,hx⟩:=yld
  exact ⟨r,[.int i,x],rfl,.of f7,rfl,.int i,[x],rfl,x,[],rfl,rfl,wk2 hσ _ _,hs i ys _ x r (hx xs q) hr p⟩
 ·have e:i=xs.length:=by lia
  subst e
  exact .inl ⟨⟨xs,q,i8 _⟩,hd ys H2 p⟩
end
end L2
namespace Mt
noncomputable def fr (q:Rat):List Int:=[q.num,(q.den:Int)]
noncomputable def cut (t b:Int):Rat:=mkRat t b.toNat
variable {t b:Int}
theorem uB (hb:0<b):(cut t b).num=t / (U9 t b:Int):=by
 have h:b.toNat≠0:=by lia
 unfold cut
 rw[nD,dif_neg h,Rat.num_normalize]
 have e:b.toNat=b.natAbs:=by lia
 rw[e];rfl
theorem zR (hb:0<b):((cut t b).den:Int)=b / (U9 t b:Int):=by
 have h:b.toNat≠0:=by lia
 unfold cut
 rw[nD,dif_neg h,Rat.den_normalize]
 have e:b.toNat=b.natAbs:=by lia
 rw[e,Int.natCast_ediv]
 have e2:((b.natAbs:Nat):Int)=b:=by lia
 rw[e2];rfl
theorem DH (hb:0<b):fr (cut t b)=[t / (U9 t b:Int),b / (U9 t b:Int)]:=by
 unfold fr;rw[uB hb,zR hb]
theorem zQ (p q:Rat):cut (p.num*q.num) ((p.den:Int)*(q.den:Int))=p*q:=by
 unfold cut
 rw[Rat.mul_def,nD]
 have e:((p.den:Int)*(q.den:Int)).toNat=p.den*q.den:=by rw[<- cA];rfl
 have hp:=p.den_nz;have hq:=q.den_nz
 have h:p.den*q.den≠0:=cz hp hq
 rw[dif_neg (by rw[e];exact h)]
 congr 1
theorem zS (p q:Rat):cut (p.num*(q.den:Int)+q.num*(p.den:Int)) ((p.den:Int)*(q.den:Int))=p+q:=by
 unfold cut
 rw[Rat.add_def,nD]
 have e:((p.den:Int)*(q.den:Int)).toNat=p.den*q.den:=by rw[<- cA];rfl
 have hp:=p.den_nz;have hq:=q.den_nz
 have h:p.den*q.den≠0:=cz hp hq
 rw[dif_neg (by rw[e];exact h)]
 congr 1
structure Bd (n:Nat) (q:Rat):Prop where
 num:q.num.natAbs<=2 ^ n
 den:q.den<=2 ^ n
theorem jm (a:Int) (g:Nat):(a / (g:Int)).natAbs<=a.natAbs:=by
 rcases Nat.eq_zero_or_pos g with h|h
 ·subst h;simp
 ·have h0:(0:Int)<g:=by lia
  rcases Int.le_total 0 a with ha|ha
  ·have h1:0<=a / (g:Int):=IZ ha (by lia)
   have h2:a / (g:Int)<=a:=Int.ediv_le_self _ ha
   lia
  ·have h1:a<=a / (g:Int):=by
    rw[Int.le_ediv_iff_mul_le h0]
    have:a*(g:Int)<=a*1:=Int.mul_le_mul_of_nonpos_left ha (by lia)
    lia
   have h2:a / (g:Int)<=0:=by
    have:=Int.ediv_le_ediv h0 ha
    simpa using this
   lia
theorem Bd.cut {t b:Int}{n:Nat} (hb:0<b) (h1:t.natAbs<=2 ^ n) (h2:b.natAbs<=2 ^ n):Bd n (Mt.cut t b):=by
 refine ⟨?_,?_⟩
 ·rw[uB hb];exact n6 (jm _ _) h1
 ·have:=zR (t:=t) hb
  have l:=jm b (U9 t b)
  lia
noncomputable def U3:List Int->List Int->List Int:=Ly (·+·)
noncomputable def cj (ns:List Int) (k:Nat):Rat:=cut (ns.getD k 0) ns.sum
structure aq (n m:Nat) (ns:List Int):Prop where
 len:ns.length=n
 nn:∀x∈ns,0<=x/\x<=m
 pos:0<ns.sum
structure DX (n m:Nat) (r:List Int):Prop where
 len:r.length=n
 nn:∀x∈r,0<=x/\x<=m
structure lU (n m:Nat) (rs:List (List Int)):Prop where
 len:rs.length=n
 row:∀r∈rs,DX n m r
theorem lU.at {n m:Nat}{rs:List (List Int)} (h:lU n m rs) {k:Nat} (hk:k<n):DX n m (rs.getD k []):=by
 have hk':k<rs.length:=by rw[h.len];exact hk
 have:rs.getD k []=rs[k]:=by rw[E2,f6 hk'];rfl
 rw[this];exact h.row _ (K0 hk')
theorem fe:∀{l:List Int},(∀x∈l,0<=x)->0<=l.sum
 | [],_=>by simp
 | a::l,h=>by
  rw[Y9]
  have h1:=h a j8
  have h2:=fe fun x hx=>h x (j9 _ hx)
  lia
theorem sum_le {m:Int}:∀{l:List Int},(∀x∈l,x<=m)->l.sum<=m*(l.length:Int)
 | [],_=>by simp
 | a::l,h=>by
  rw[Y9,A8]
  have h1:=h a j8
  have h2:=sum_le fun x hx=>h x (j9 _ hx)
  have e:m*((l.length+1:Nat):Int)=m*(l.length:Int)+m:=by rw[Int.natCast_add,Int.mul_add];simp
  lia
theorem wK:∀{a b:List Int},a.length=b.length->(U3 a b).sum=a.sum+b.sum
 | [],[],_=>by simp[U3]
 | x::a,y::b,h=>by
  have ih:=wK (a:=a) (b:=b) (by simpa using h)
  show ((x+y)::U3 a b).sum=_
  rw[Y9,Y9,Y9,ih];lia
 | [],_::_,h=>by simp at h
 | _::_,[],h=>by simp at h
theorem wL:∀{a b:List Int}{x:Int},x∈U3 a b->∃y∈a,∃z∈b,x=y+z
 | [],b,x,h=>by simp[U3] at h
 | _::_,[],x,h=>by simp[U3] at h
 | p::a,q::b,x,h=>by
  rcases List.mem_cons.mp (show x∈(p+q)::U3 a b from h) with e|h
  ·exact ⟨p,j8,q,j8,e⟩
  ·obtain ⟨y,hy,z,hz,e⟩:=wL h
   exact ⟨y,j9 _ hy,z,j9 _ hz,e⟩
theorem aq.add {n m j:Nat}{ns r:List Int} (h:aq n m ns) (hr:DX n j r):aq n (m+j) (U3 ns r):=by
 have hl:ns.length=r.length:=by rw[h.len,hr.len]
 refine ⟨?_,fun x hx=>?_,?_⟩
 ·unfold U3;rw[md,h.len,hr.len];lia
 ·obtain ⟨y,hy,z,hz,e⟩:=wL hx
  have:=h.nn y hy;have:=hr.nn z hz;lia
 ·rw[wK hl]
  have:=fe (l:=r) fun x hx=>(hr.nn x hx).1
  have:=h.pos;lia
theorem aq.getD {n m:Nat}{ns:List Int} (h:aq n m ns) (k:Nat):0<=ns.getD k 0/\ns.getD k 0<=m:=by
 rw[E2]
 cases e:ns[k]? with
 | none=>simp
 | some x=>exact h.nn x (C5 e)
noncomputable def dC:List Rat->Rat
 | []=>0
 | q::r=>q+dC r
theorem nH:∀a b:List Rat,dC (a++b)=dC a+dC b
 | [],b=>by show dC b=0+dC b;grind
 | q::a,b=>by show q+dC (a++b)=q+dC a+dC b;rw[nH a b];grind
end Mt
namespace Md
open PySem PySem.Spec L2 Mt
noncomputable abbrev Tab:=List (List Int × Int)
noncomputable def kI (ns:List Int):List jt:=ns.map Z8
theorem fK (ns:List Int):(kI ns).map kV=ns.map V.int:=by
 unfold kI;rw[R4];rfl
theorem yx:∀{a b:List Int},kI a=kI b->a=b
 | [],[],_=>rfl
 | [],_::_,h=>by cases h
 | _::_,[],h=>by cases h
 | x::a,y::b,h=>by
  have h':(Z8 x:jt)::kI a=Z8 y::kI b:=h
  injection h' with h1 h2
  injection h1 with h1
  rw[h1,yx h2]
noncomputable def lin (D:Tab) (φ:List Int->Int):Int:=(D.map fun p=>p.2*φ p.1).sum
noncomputable def rl (rs:List (List Int)) (i:Nat):List Int->Nat->Int
 | [],_=>0
 | c::cs,j=>c*(rs.getD j []).getD i 0+rl rs i cs (j+1)
noncomputable def uU (u:List Int) (rs:List (List Int)) (c:List Int):List Int:=(R0 u.length).map fun i=>u.getD i 0+rl rs i c 0
noncomputable def Jj (c:List Int) (i:Nat):List Int:=c.set i (c.getD i 0+1)
theorem wA (rs:List (List Int)) (i:Nat):∀(c:List Int) (j k:Nat),k<c.length->rl rs i (Jj c k) j=rl rs i c j+(rs.getD (j+k) []).getD i 0
 | [],_,_,h=>by simp at h
 | x::c,j,0,_=>by
  show (x+1)*_+rl rs i c (j+1)=x*_+rl rs i c (j+1)+_
  rw[Int.add_mul];simp;lia
 | x::c,j,k+1,h=>by
  have ih:=wA rs i c (j+1) k (by simpa using h)
  show x*_+rl rs i (Jj c k) (j+1)=x*_+rl rs i c (j+1)+_
  rw[ih,show j+1+k=j+(k+1) by lia];lia
theorem FC {n:Nat}{u c:List Int}{rs:List (List Int)}{k:Nat} (hu:u.length=n) (hc:c.length=n) (hR:lU n 5 rs) (hk:k<n):uU u rs (Jj c k)=U3 (uU u rs c) (rs.getD k []):=by
 have hr:=hR.at hk
 have l1:(uU u rs c).length=n:=by unfold uU;simp[hu]
 apply gS
 intro i
 unfold U3
 rw[jQ]
 unfold uU
 rw[A4,A4]
 by_cases hi:i<n
 ·rw[BM (by lia)]
  rw[f6 (l:=rs.getD k []) (by rw[hr.len];exact hi)]
  simp only[bS]
  rw[wA rs i c 0 k (by lia),U7]
  congr 1
  rw[show (rs.getD k []).getD i 0=(rs.getD k [])[i]'(by rw[hr.len];exact hi) by rw[E2 (l:=rs.getD k []),f6 (by rw[hr.len];exact hi)];rfl]
  lia
 ·rw[jR (by simp;lia)]
  simp
theorem sj (rs:List (List Int)) (i:Nat):∀(n j:Nat),rl rs i (A7 n 0) j=0
 | 0,_=>rfl
 | n+1,j=>by
  show (0:Int)*_+rl rs i (A7 n 0) (j+1)=0
  rw[sj rs i n (j+1)];lia
theorem wI (u:List Int) (rs:List (List Int)) (n:Nat):uU u rs (A7 n 0)=u:=by
 unfold uU
 apply gS
 intro i
 rw[A4]
 by_cases hi:i<u.length
 ·rw[BM hi,bS,sj,E2,f6 hi];simp
 ·rw[jR (by simp;lia),jR (by lia)];rfl
end Md
namespace L2
open PySem PySem.Spec PyProof.Rows
noncomputable abbrev lit (t:Addr):Obj:={ cls:=.type "list_iterator",data:=.fields #[.ref t,.int 0 0] }
section
variable {X:Cx}
end
section
variable {X:Cx}{K:m9}
end
section
variable {prog:j6}{w:r9}{A:A5}{E:b9->d7->Prop}{s:d7}
end
section
variable {X:Cx}
end
theorem Im {CX:yQ}{P:j6}{w:r9}{K:m9}{mg:Str->Option b9}{base:Heap}{f:Addr}{name qual:Str}{params:dN}{body:List Stmt}{scope:Q0}{dV kV doc pm cdv ct oc:b9}{an od:Option Addr}
  {osl:Array (Option b9)}{N ps:List Str}{sp:Sp} (lk:K.lookup f=some ⟨oc,od,.func (gN name qual params body scope dV kV doc pm an cdv ct),osl⟩) (hcd:jF K cdv qual=true) (S:D9 N ps scope)
  (len:∀vs H Q E,sp vs H Q E->vs.length=ps.length)
  (hbody:∀(A:A5) (outer:List Env) (s:d7) (H:Hp) (vs:List V) (Q:VK) (E:XK),sp vs H Q E ->
   ∃t,qI (gC CX P w K mg base N qual scope f cdv A outer s H E) body t/\t { nx:=fun _ H'=>Q .non H',rt:=Q } (start N vs) H):
  N0 P w K mg base CX 0 f (gN name qual params body scope dV kV doc pm an cdv ct) ps sp:=by
 refine ⟨len,fun A outer s H args us vs Q E hr e0 hb r hsp=>?_⟩
 have hl:=len _ _ _ _ hsp
 have KX:K.In s.heap:=e0.mod.kin.keeps fun b o e=>(e0.bs b o e).1
 have lim:s.heap.NoLimit:=e0.mod.nolimit.keeps fun b o e=>(e0.bs b o e).1
 have hkind:∀y∈ps.zip us,scope.names.lookup y.1=some .local ∨ (scope.names.lookup y.1=some .cell/\((Q7 (s.heap.objs.size+1) scope.names []).lookup y.1).isSome=true):=fun ⟨n,v⟩ hy=>by
  rcases S.par n (jG hy).1 with q|q
  ·exact .inl q
  ·exact .inr ⟨q,sO _ _ _ (.inl q)⟩
 refine FN hr.depth (KX _ _ lk) rfl S.co S.gen rfl (W.codeRec_of KX hcd) (hb _ _ _ _ ?_)
 refine Ae S.kind hkind fun env he s1 x=>?_
 subst he
 refine ⟨lim.keeps x.toInCall.keep,codeAny_func ?_⟩
 obtain ⟨t,ht,hq⟩:=hbody A outer s H vs Q E hsp
 have I:E6 (gC CX P w K mg base N qual scope f cdv A outer s H E) [] (start N vs) H s1:=rY S hr.hd e0 hl r x
 refine K5 (ht [] s1 (start N vs) H _ I hq) (fun fl s' hs=>?_) fun e s' hs=>hs
 have fin:∀{σ':St}{H':Hp}{v:V}{u:b9},E6 (gC CX P w K mg base N qual scope f cdv A outer s H E) [] σ' H' s'->Q4 v u->Q v H'->CE outer P w H s Q u s' :=
  fun {σ' H' v u} J rv q=>⟨v,H',J.os,J.bare,J.base,J.hok,rv,q⟩
 cases fl with
 | ret u =>
  obtain ⟨v,σ',H',J,rv,q⟩:=hs
  exact fin J rv q
 | next =>
  obtain ⟨σ',H',J,q⟩:=hs
  exact fin (v:=V.non) (u:=E9) J rfl q
 | brk =>
  obtain ⟨_,_,_,q⟩:=hs
  exact G8 q
 | cont =>
  obtain ⟨_,_,_,q⟩:=hs
  exact G8 q
theorem bT.ok0 {P:j6}{w:r9}{K:m9}{mg:Str->Option b9}{base:Heap}{x qual:Str}{st:Stmt}{f:Addr}{fd:D6}{N ps:List Str}{sp:Sp} (F:bT K x qual st f fd) (S:D9 N ps (A1 st)) (len:∀vs H Q E,sp vs H Q E->vs.length=ps.length)
  (hbody:∀(cdv:b9) (A:A5) (outer:List Env) (s:d7) (H:Hp) (vs:List V) (Q:VK) (E:XK),sp vs H Q E ->
   ∃t,qI (gC dI P w K mg base N qual (A1 st) f cdv A outer s H E).nox (bf st) t/\t { nx:=fun _ H'=>Q .non H',rt:=Q } (start N vs) H):N0 P w K mg base dI 0 f fd ps sp:=by
 obtain ⟨oc,od,kV,doc,pm,an,cdv,ct,osl,rfl,lk,hcd⟩:=F.ex
 refine Im lk hcd S len fun A outer s H vs Q E hsp=>?_
 obtain ⟨t,h,q⟩:=hbody cdv A outer s H vs Q E hsp
 exact ⟨t,h.nox,q⟩
section
variable {X:Cx}
end
end L2
namespace G
open PySem PySem.Spec PyProof.Rows L2 Mt
noncomputable def fE (i:Nat):Stmt:=PySem.Challenge.pw_growurns_k82_mean_shares_of_two_urns.main.body.getD i (.Pass ⟨0,0,0,0⟩)
structure Bt (mg:Str->Option b9):Prop where
 isinstance:mg "isinstance"=none
 bool:mg "bool"=none
 int:mg "int"=none
 tuple:mg "tuple"=none
 list:mg "list"=none
 all:mg "all"=none
 sum:mg "sum"=none
 len:mg "len"=none
 range:mg "range"=none
 max:mg "max"=none
 min:mg "min"=none
 abs:mg "abs"=none
 zip:mg "zip"=none
noncomputable def S7 (lo hi:Int):B0->Bool
 | .int i=>decide (lo<=i)&&decide (i<=hi)
 | _=>false
section
variable {P:j6}{w:r9}{K:m9}{mg:Str->Option b9}{base:Heap}{f:Addr}{fd:D6}
noncomputable def numD:B0->Bool
 | .int _=>true
 | _=>false
noncomputable def gX:Sp:=fun vs H Q _=>∃(v:V) (st:Addr) (d:B0),vs=[v]/\Dt st H d v/\Q (.bl (numD d)) H
noncomputable abbrev je:Stmt:=fE 13
theorem tL:D9 ["thing"] ["thing"] (A1 je):=⟨rfl,rfl,rfl,by decide +kernel,rfl,by decide +kernel,by decide +kernel⟩
theorem ug (F:bT K "is_number" "is_number" je f fd) (B:Bt mg):N0 P w K mg base dI 0 f fd ["thing"] gX:=by
 refine F.ok0 tL (fun vs H Q E h=>?_) (fun cdv A outer s H vs Q E h=>?_)
 ·obtain ⟨v,st,d,rfl,_⟩:=h
  rfl
 obtain ⟨v,st,d,rfl,hd,q⟩:=h
 refine ⟨_,t6 (D7 (dR (u5 (W4 zF) rfl B.isinstance B4 (b7 (pv 0) (b7 (Y7 rfl B.int jX) d8)))
  (cP (ud (u5 (W4 lJ) rfl B.isinstance B4 (b7 (pv 0) (b7 (Y7 rfl B.bool Ed) d8))))))),?_⟩
 refine ⟨_,rfl,v,st,d,rfl,hd,_,rfl,?_⟩
 cases d with
 | bool b=>exact ⟨_,rfl,v,st,_,rfl,hd,_,rfl,q⟩
 | int i=>exact ⟨_,rfl,v,st,_,rfl,hd,_,rfl,q⟩
 | none=>exact q
 | str x=>exact q
 | list ds=>exact q
 | tuple ds=>exact q
 | dict kvs=>exact q
noncomputable def fG:Sp:=fun vs H Q _=>∃(v:V) (st:Addr) (d:B0) (lo hi:Int),vs=[v,.int lo,.int hi]/\Dt st H d v/\Q (.bl (S7 lo hi d)) H
noncomputable abbrev kq:Stmt:=fE 14
theorem vD:D9 ["thing","low","high"] ["thing","low","high"] (A1 kq):=⟨rfl,rfl,rfl,by decide +kernel,rfl,by decide +kernel,by decide +kernel⟩
theorem vT (F:bT K "is_whole" "is_whole" kq f fd) (c1:V4 P w K mg base 0 "is_number" ["thing"] gX):N0 P w K mg base dI 1 f fd ["thing","low","high"] fG:=by
 refine F.ok vD (fun vs H Q E h=>?_) (fun cdv A outer s H vs Q E hr h=>?_)
 ·obtain ⟨v,st,d,lo,hi,rfl,_⟩:=h
  rfl
 obtain ⟨v,st,d,lo,hi,rfl,hd,q⟩:=h
 refine ⟨_,t6 (D7 (dR (B9 c1 hr rfl (b7 (pv 0) d8)) (cP (ji iH iH (pv 1) (pv 0) (pv 2))))),?_⟩
 refine ⟨_,rfl,v,st,d,rfl,hd,_,rfl,?_⟩
 cases d with
 | int i =>
  refine V0 ?_
  unfold Dt at hd
  subst hd
  refine ⟨_,rfl,_,rfl,lo,i,rfl,rfl,_,rfl,?_⟩
  have q':Q (.bl (decide (lo<=i)&&decide (i<=hi))) H:=q
  by_cases h1:lo<=i
  ·rw[decide_eq_true h1,Q8] at q'
   rw[decide_eq_true h1]
   exact V0 ⟨_,rfl,i,hi,rfl,rfl,q'⟩
  ·rw[decide_eq_false h1,O3] at q'
   rw[decide_eq_false h1]
   exact W3 q'
 | bool b=>exact q
 | none=>exact q
 | str x=>exact q
 | list ds=>exact q
 | tuple ds=>exact q
 | dict kvs=>exact q
noncomputable def O6 (lo hi:Int):B0->Bool
 | .tuple ds=>ds.all (S7 lo hi)
 | _=>false
noncomputable def cY:Sp:=fun vs H Q _=>∃(v:V) (st:Addr) (d:B0) (lo hi:Int),vs=[v,.int lo,.int hi]/\Dt st H d v/\(∀ds,d=.tuple ds->ds.length<=1000)/\∀H',i7 H H'->Q (.bl (O6 lo hi d)) H'
noncomputable abbrev ic:Stmt:=fE 15
theorem qW:D9 ["thing","low","high"] ["thing","low","high"] (A1 ic):=⟨rfl,rfl,rfl,by decide +kernel,rfl,by decide +kernel,by decide +kernel⟩
theorem qY (F:bT K "are_wholes" "are_wholes" ic f fd) (B:Bt mg) (c1:V4 P w K mg base 1 "is_whole" ["thing","low","high"] fG):N0 P w K mg base dI 2 f fd ["thing","low","high"] cY:=by
 refine F.ok qW (fun vs H Q E h=>?_) (fun cdv A outer s H vs Q E hr h=>?_)
 ·obtain ⟨v,st,d,lo,hi,rfl,_⟩:=h
  rfl
 obtain ⟨v,st,d,lo,hi,rfl,hd,hl,q⟩:=h
 refine ⟨_,t6 (D7 (dR (u5 (W4 iq) rfl B.isinstance B4 (b7 (pv 0) (b7 (Y7 rfl B.tuple J6) d8)))
  (cP (u5 (cw rfl) rfl B.all Ah (b7 (N4 (N:=["part","low","high"]) (ix:=[none,some 1,some 2]) (ifs:=[]) (tc:=S1) rfl (pP (pv 0))
   (fun s H ex=>aj (i:=0) (by decide +kernel) rfl (A2 rfl) (.inr rfl)) (fun s H ex=>M4) (fun s H ex=>B9 c1 hr rfl (b7 (pv 0) (b7 (pv 1) (b7 (pv 2) d8)))) rfl (by decide +kernel) (by rfl) (by rfl) (fun _=>rfl)) d8))))),?_⟩
 refine ⟨_,rfl,v,st,d,rfl,hd,_,rfl,?_⟩
 cases d with
 | tuple ds =>
  refine V0 ?_
  obtain ⟨a,xs,rfl,ne,ha,hds⟩:∃a xs,v=.ref a/\a≠st/\H a=some (.tup xs)/\S3 st H ds xs:=by unfold Dt at hd;exact hd
  have hlen:=hds.len
  have hl':=hl ds rfl
  refine ⟨_,rfl,a,rfl,⟨xs,.of ha⟩,oJ (K:=K) (a:=a) (xs:=xs) (sz (by lia)) (fun i ys H2=>i7 H H2/\i<=ds.length/\ys=(ds.take i).map fun d=>V.bl (S7 lo hi d)) ⟨i7.refl H,u9 _,rfl⟩ (fun i ys H2 h=>?_) (fun i ys H2 _ h=>.of (h.1 _ _ ha)) rfl (fun i ys H2 x hx h=>?_) (fun ys H2 h=>?_)⟩
  ·obtain ⟨_,hi,rfl⟩:=h
   rw[d6,y7];lia
  ·obtain ⟨hS,hil,rfl⟩:=h
   obtain ⟨d,hd',dt⟩:=hds.get hx
   refine ⟨_,rfl,_,rfl,_,rfl,x,st,d,lo,hi,rfl,dt.kp (hS.kp st),hS,(List.getElem?_eq_some_iff.mp hd').1,?_⟩
   rw[D2,hd',A3];rfl
  ·obtain ⟨hS,hil,rfl⟩:=h
   intro p hp
   refine ⟨p,_,rfl,.inl (.of f7),?_,?_⟩
   ·rw[P6];exact List.all_eq_true.mpr fun _ _=>rfl
   ·have e:(((ds.take xs.length).map fun d=>V.bl (S7 lo hi d)).all mC)=O6 lo hi (.tuple ds):=by
     rw[<- hlen,D4,P6];rfl
    rw[e]
    exact q _ (hS.trans (i7.new hp))
 | _=>exact q H (i7.refl H)
end
structure Ct (mg:Str->Option b9):Prop where
 kinds:∃t,mg "MOST_KINDS"=some (.int 4 t)
 balls:∃t,mg "MOST_BALLS"=some (.int 20 t)
 puts:∃t,mg "MOST_PUT_IN"=some (.int 5 t)
variable {H:Hp}{v:V}
theorem _root_.L2.Dt.untup {st:Addr}{ds:List B0}(h:Dt st H (.tuple ds) v):∃a xs,v=.ref a/\a≠st/\H a=some (.tup xs)/\S3 st H ds xs:=by unfold Dt at h;exact h
theorem _root_.L2.Dt.unint {st:Addr}{i:Int}(h:Dt st H (.int i) v):v=.int i:=by unfold Dt at h;exact h
variable {lo hi:Int}{d:B0}
theorem oW (h:S7 lo hi d=true):∃i,d=.int i/\lo<=i/\i<=hi:=by
 cases d with
 | int i =>
  have h':(decide (lo<=i)&&decide (i<=hi))=true:=h
  rw[A6] at h'
  exact ⟨i,rfl,of_decide_eq_true h'.1,of_decide_eq_true h'.2⟩
 | _=>cases (show false=true from h)
theorem qt {lo hi:Int}:∀{ds:List B0},ds.all (S7 lo hi)=true->∃ns:List Int,ds=ns.map .int/\∀x∈ns,lo<=x/\x<=hi
 | [],_=>⟨[],rfl,by simp⟩
 | d::ds,h=>by
  rw[wY,A6] at h
  obtain ⟨i,e,h1,h2⟩:=oW h.1
  obtain ⟨ns,e2,h3⟩:=qt h.2
  subst e e2
  exact ⟨i::ns,rfl,fun x hx=>by
   rcases List.mem_cons.mp hx with z|z
   ·subst z;exact ⟨h1,h2⟩
   ·exact h3 x z⟩
theorem ej (h:O6 lo hi d=true):∃ns:List Int,d=DI ns/\∀x∈ns,lo<=x/\x<=hi:=by
 cases d with
 | tuple ds =>
  obtain ⟨ns,e,h2⟩:=qt (ds:=ds) h
  subst e
  exact ⟨ns,rfl,h2⟩
 | _=>cases (show false=true from h)
noncomputable def Il:B0->Int
 | .int i=>i
 | _=>0
noncomputable def aE:B0->Nat
 | .tuple ds=>ds.length
 | _=>0
noncomputable def JQ:B0->Int
 | .tuple ds=>(ds.map Il).sum
 | _=>0
theorem oq (ns:List Int):JQ (DI ns)=ns.sum:=by
 show ((ns.map dM).map Il).sum=ns.sum
 rw[R4]
 have e:(Il ∘ dM)=id:=by funext i;rfl
 rw[e,Me]
theorem U5 (ns:List Int):aE (DI ns)=ns.length:=by show (ns.map dM).length=_;rw[d6]
noncomputable def dB (m:Int) (d:B0):Bool:=O6 0 m d&&((decide ((1:Int)<=aE d)&&decide ((aE d:Int)<=4))&&decide ((0:Int)<JQ d))
noncomputable def fi (k:Int) (d:B0):Bool:=match d with
 | .tuple ds=>decide ((ds.length:Int)=k)&&ds.all (fun r=>O6 0 5 r&&decide ((aE r:Int)=k))
 | _=>false
noncomputable def bN (d:B0):Prop:=∀ds,d=.tuple ds->ds.length<=1000
section
variable {P:j6}{w:r9}{K:m9}{mg:Str->Option b9}{base:Heap}{f:Addr}{fd:D6}
noncomputable def dQ:Sp:=fun vs H Q _=>∃(v:V) (st:Addr) (d:B0) (m:Int),vs=[v,.int m]/\Dt st H d v/\bN d/\∀H',i7 H H'->Q (.bl (dB m d)) H'
noncomputable abbrev fh:Stmt:=fE 27
theorem og:D9 ["thing","most"] ["thing","most"] (A1 fh):=⟨rfl,rfl,rfl,by decide +kernel,rfl,by decide +kernel,by decide +kernel⟩
theorem oh (F:bT K "is_urn_up_to" "is_urn_up_to" fh f fd) (B:Bt mg) (C:Ct mg) (c1:V4 P w K mg base 2 "are_wholes" ["thing","low","high"] cY):N0 P w K mg base dI 3 f fd ["thing","most"] dQ:=by
 refine F.ok og (fun vs H Q E h=>?_) (fun cdv A outer s H vs Q E hr h=>?_)
 ·obtain ⟨v,st,d,m,rfl,_⟩:=h
  rfl
 obtain ⟨v,st,d,m,rfl,hd,hl,q⟩:=h
 obtain ⟨tk,hk⟩:=C.kinds
 refine ⟨_,m7 (V6 (bo (ar (B9 c1 hr rfl (b7 (pv 0) (b7 j0 (b7 (pv 1) d8)))))) (t6 (D7 dF)) K9)
  (t6 (D7 (dR (ji iH iH j0 (u5 D8 rfl B.len C8 (b7 (pv 0) d8)) (Z4 (v:=.int 4) rfl hk ⟨tk,rfl⟩))
   (cP (df rO (u5 (cu rfl) rfl B.sum Ag (b7 (pv 0) d8)) j0 (O8 _)))))),?_⟩
 refine ⟨_,rfl,_,rfl,v,st,d,0,m,rfl,hd,hl,fun H1 g1=>⟨_,rfl,?_⟩⟩
 have q1:=q H1 g1
 unfold dB at q1
 cases hw:O6 0 m d with
 | false =>
  rw[hw,O3] at q1
  exact V0 q1
 | true =>
  rw[hw,Q8] at q1
  refine W3 ?_
  obtain ⟨ns,e,hns⟩:=ej hw
  subst e
  obtain ⟨a,e,ne,ha⟩:=hd.di
  subst e
  rw[U5,oq] at q1
  have ha1:=g1 _ _ ha
  refine ⟨_,rfl,a,_,rfl,.inr (.of ha1),_,_,rfl,rfl,_,rfl,?_⟩
  rw[d6]
  by_cases h1:(1:Int)<=(ns.length:Int)
  ·rw[decide_eq_true h1,Q8] at q1
   rw[decide_eq_true h1]
   refine V0 ⟨_,_,rfl,rfl,_,rfl,?_⟩
   by_cases h2:(ns.length:Int)<=4
   ·rw[decide_eq_true h2,Q8] at q1
    rw[decide_eq_true h2]
    exact V0 ⟨_,rfl,a,ns,rfl,.inr (.of ha1),_,_,rfl,rfl,q1⟩
   ·rw[decide_eq_false h2,O3] at q1
    rw[decide_eq_false h2]
    exact W3 q1
  ·rw[decide_eq_false h1,O3,O3] at q1
   rw[decide_eq_false h1]
   exact W3 ⟨_,rfl,W3 q1⟩
noncomputable def eO:Sp:=fun vs H Q _=>∃(v:V) (st:Addr) (d:B0),vs=[v]/\Dt st H d v/\bN d/\∀H',i7 H H'->Q (.bl (dB 20 d)) H'
noncomputable abbrev pI:Stmt:=fE 26
theorem AB:D9 ["thing"] ["thing"] (A1 pI):=⟨rfl,rfl,rfl,by decide +kernel,rfl,by decide +kernel,by decide +kernel⟩
theorem AI (F:bT K "is_urn" "is_urn" pI f fd) (C:Ct mg) (c1:V4 P w K mg base 3 "is_urn_up_to" ["thing","most"] dQ):N0 P w K mg base dI 4 f fd ["thing"] eO:=by
 refine F.ok AB (fun vs H Q E h=>?_) (fun cdv A outer s H vs Q E hr h=>?_)
 ·obtain ⟨v,st,d,rfl,_⟩:=h
  rfl
 obtain ⟨v,st,d,rfl,hd,hl,q⟩:=h
 obtain ⟨tk,hk⟩:=C.balls
 refine ⟨_,t6 (D7 (B9 c1 hr rfl (b7 (pv 0) (b7 (Z4 (v:=.int 20) rfl hk ⟨tk,rfl⟩) d8)))),?_⟩
 exact ⟨_,rfl,v,st,d,20,rfl,hd,hl,q⟩
noncomputable def cg (c:Nat->Addr):Sp:=fun vs H Q E=>∃(v:V) (st:Addr) (d:B0) (lo hi:Int),vs=[v,.int lo,.int hi]/\Dt st H d v/\Sm lo/\Sm hi/\(S7 lo hi d=true->Q .non H)/\(S7 lo hi d=false->E (.ref (c 5)) none H)
noncomputable abbrev fN:Stmt:=fE 16
theorem pD:D9 ["thing","low","high"] ["thing","low","high"] (A1 fN):=⟨rfl,rfl,rfl,by decide +kernel,rfl,by decide +kernel,by decide +kernel⟩
theorem pS {c:Nat->Addr}{B:Addr} (F:bT K "need_number" "need_number" fN f fd) (R:yO K mg c B) (c1:V4 P w K mg base 1 "is_whole" ["thing","low","high"] fG):N0 P w K mg base (kT P w) 2 f fd ["thing","low","high"] (cg c):=by
 refine F.okX pD (fun vs H Q E h=>?_) (fun cdv A outer s H vs Q E hr h=>?_)
 ·obtain ⟨v,st,d,lo,hi,rfl,_⟩:=h
  rfl
 obtain ⟨v,st,d,lo,hi,rfl,hd,slo,shi,q1,q2⟩:=h
 refine ⟨_,t6 (V6 (bo (ar (B9 c1 hr rfl (b7 (pv 0) (b7 (pv 1) (b7 (pv 2) d8)))))) (t6 (jy R.e5 (R.xc 5 (by decide)) (zu (tX (xW (pv 1) (tX (xW (pv 2) CP))))) (fun σ H Q Q' m q=>?_))) K9),?_⟩
 ·obtain ⟨v1,z1,i1,z2,z3,z4,v2,z5,i2,z6,z7,z8,z9⟩:=q
  exact ⟨v1,z1,i1,z2,z3,z4,v2,z5,i2,z6,z7,z8,fun z=>m _ _ (z9 z)⟩
 refine ⟨_,rfl,_,rfl,_,rfl,v,st,d,lo,hi,rfl,hd,_,rfl,?_⟩
 cases hw:S7 lo hi d with
 | true=>exact W3 (q1 hw)
 | false=>exact V0 ⟨_,rfl,lo,rfl,slo.1,slo.2,_,rfl,hi,rfl,shi.1,shi.2,fun z=>q2 hw⟩
noncomputable def kh (c:Nat->Addr):Sp:=fun vs H Q E=>∃(u v:V) (st:Addr) (dk d:B0),vs=[u,v]/\Dt st H dk u/\(S7 1 4 dk=false->E (.ref (c 5)) none H) /\
 (∀k,dk=.int k->1<=k->k<=4->Dt st H d v/\bN d/\(∀ds,d=.tuple ds->∀r∈ds,bN r)/\∀H',i7 H H'->Q (.bl (fi k d)) H')
noncomputable abbrev mK:Stmt:=fE 28
theorem xJ:D9 ["kinds","thing"] ["kinds","thing"] (A1 mK):=⟨rfl,rfl,rfl,by decide +kernel,rfl,by decide +kernel,by decide +kernel⟩
theorem sm1:Sm 1:=by unfold Sm;decide +kernel
theorem sm4:Sm 4:=by unfold Sm;decide +kernel
theorem yc {c:Nat->Addr} (F:bT K "is_rule" "is_rule" mK f fd) (B:Bt mg) (C:Ct mg) (c1:V4 P w K mg base 2 "are_wholes" ["thing","low","high"] cY) (c2:fU P w K mg base 2 "need_number" ["thing","low","high"] (cg c)):N0 P w K mg base (kT P w) 3 f fd ["kinds","thing"] (kh c):=by
 refine F.okX xJ (fun vs H Q E h=>?_) (fun cdv A outer s H vs Q E hr h=>?_)
 ·obtain ⟨u,v,st,dk,d,rfl,_⟩:=h
  rfl
 obtain ⟨u,v,st,dk,d,rfl,hu,qE,qQ⟩:=h
 obtain ⟨tk,hk⟩:=C.kinds
 obtain ⟨tp,hp⟩:=C.puts
 refine ⟨_,m7 (fI (cm c2 hr rfl fJ (b7 (pv 0) (b7 j0 (b7 (Z4 (v:=.int 4) rfl hk ⟨tk,rfl⟩) d8)))))
  (qI.nox (m7 (V6 (PW.pt (pL (bo (ar (u5 (W4 iq) rfl B.isinstance B4 (b7 (pv 1) (b7 (Y7 rfl B.tuple J6) d8)))))
   (kz (R7 jU (u5 D8 rfl B.len C8 (b7 (pv 1) d8)) (pv 0) (O8 _))))) (t6 (D7 dF)) K9)
  (t6 (D7 (u5 (cw rfl) rfl B.all Ah (b7 (N4 (N:=["row","kinds"]) (ix:=[none,some 0]) (ifs:=[]) (tc:=S1) rfl (pP (pv 1))
   (fun s H ex=>aj (i:=0) (by decide +kernel) rfl (A2 rfl) (.inr rfl)) (fun s H ex=>M4)
   (fun s H ex=>dR (B9 c1 hr rfl (b7 (pv 0) (b7 j0 (b7 (Z4 (v:=.int 5) rfl hp ⟨tp,rfl⟩) d8)))) (cP (df jj (u5 (lenK (K:=K) rfl) rfl B.len C8 (b7 (pv 0) d8)) (pv 1) (O8 _)))) rfl (by decide +kernel) (by rfl) (by rfl) (fun _=>rfl)) d8)))))),?_⟩
 refine ⟨_,rfl,u,st,dk,1,4,rfl,hu,sm1,sm4,fun hw=>?_,qE⟩
 obtain ⟨k,e,k1,k4⟩:=oW hw
 subst e
 obtain rfl:=hu.unint
 obtain ⟨hd,hl,hl2,q⟩:=qQ k rfl k1 k4
 refine ⟨_,rfl,v,st,d,rfl,hd,_,rfl,?_⟩
 cases d with
 | tuple ds =>
  obtain ⟨a,xs,e,ne,ha,hds⟩:=hd.untup
  subst e
  have hlen:=hds.len
  have hl':=hl ds rfl
  refine W3 ⟨_,rfl,a,xs,rfl,.inr (.of ha),_,rfl,rfl,_,rfl,?_⟩
  have q0:=fun H' g=>q H' g
  unfold fi at q0
  by_cases hk':(ds.length:Int)=k
  ·have e1:V.int (xs.length:Int)=V.int k:=by rw[<- hlen,hk']
   rw[decide_eq_true e1]
   refine W3 ?_
   have q1:∀H',i7 H H'->Q (.bl (ds.all (fun r=>O6 0 5 r&&decide ((aE r:Int)=k)))) H':=fun H' g=>by
    have:=q0 H' g
    simp only[decide_eq_true hk',Q8] at this
    exact this
   refine ⟨_,rfl,a,rfl,⟨xs,.of ha⟩,oJ (K:=K) (a:=a) (xs:=xs) (sz (by lia)) (fun i ys H2=>i7 H H2/\i<=ds.length/\ys=(ds.take i).map fun r=>V.bl (O6 0 5 r&&decide ((aE r:Int)=k))) ⟨i7.refl H,u9 _,rfl⟩ (fun i ys H2 h=>?_) (fun i ys H2 _ h=>.of (h.1 _ _ ha)) rfl (fun i ys H2 x hx h=>?_) (fun ys H2 h=>?_)⟩
   ·obtain ⟨_,hil,rfl⟩:=h
    rw[d6,y7];lia
   ·obtain ⟨hS,hil,rfl⟩:=h
    obtain ⟨d,hd',dt⟩:=hds.get hx
    have dt2:=dt.kp (hS.kp st)
    refine ⟨_,rfl,x,st,d,0,5,rfl,dt2,hl2 ds rfl d (C5 hd'),fun H3 g3=>⟨_,rfl,?_⟩⟩
    have fin:∀b:Bool,b=(O6 0 5 d&&decide ((aE d:Int)=k))->i7 H H3/\i+1<=ds.length/\((ds.take i).map fun r=>V.bl (O6 0 5 r&&decide ((aE r:Int)=k)))++[V.bl b]=(ds.take (i+1)).map fun r=>V.bl (O6 0 5 r&&decide ((aE r:Int)=k)):=fun b e=>by
     subst e
     refine ⟨hS.trans g3,(List.getElem?_eq_some_iff.mp hd').1,?_⟩
     rw[D2,hd',A3];rfl
    cases hw:O6 0 5 d with
    | false=>exact W3 (fin false (by rw[hw];rfl))
    | true =>
     obtain ⟨ns,e,_⟩:=ej hw
     subst e
     obtain ⟨b,e,_,hb⟩:=dt2.di
     subst e
     refine V0 ⟨_,rfl,b,_,rfl,.inr (.of (g3 _ _ hb)),_,rfl,rfl,?_⟩
     refine fin _ ?_
     rw[hw,Q8,U5,d6]
     rw[decide_eq_decide]
     constructor
     ·intro e;injection e
     ·intro e;rw[e]
   ·obtain ⟨hS,hil,rfl⟩:=h
    intro p hp
    refine ⟨p,_,rfl,.inl (.of f7),?_,?_⟩
    ·rw[P6];exact List.all_eq_true.mpr fun _ _=>rfl
    ·have e:(((ds.take xs.length).map fun r=>V.bl (O6 0 5 r&&decide ((aE r:Int)=k))).all mC)=ds.all (fun r=>O6 0 5 r&&decide ((aE r:Int)=k)):=by
      rw[<- hlen,D4,P6];rfl
     rw[e]
     exact q1 _ (hS.trans (i7.new hp))
  ·have e1:¬ V.int (xs.length:Int)=V.int k:=fun e=>hk' (by rw[hlen];injection e)
   rw[decide_eq_false e1]
   refine V0 ?_
   have:=q0 H (i7.refl H)
   simp only[decide_eq_false hk',O3] at this
   exact this
 | _=>exact V0 (V0 (q H (i7.refl H)))
end
theorem FA:X4 "ValueError"=some (.type "ValueError"):=by decide +kernel
noncomputable def zW (i:Nat):List Bool:=[decide (i=0),decide (i=1),decide (i=2),decide (i=3),decide (i=4),decide (i=5),decide (i=6),decide (i=7),decide (i=8),decide (i=9)]
theorem uF (i:Nat):(zW i).length=10:=rfl
theorem Ir (i:Nat):(zW i).length<=i6:=by rw[uF];decide
theorem Iq:∀i:Nat,i<10->((zW i).map (fun b=>if b then (1:Int) else 0)).sum=1:=by decide
theorem Gh:∀i:Nat,i<10->(zW i)[i]?=some true/\∀m,m<i->(zW i)[m]?=some false:=by decide
section
variable {P:j6}{w:r9}{K:m9}{mg:Str->Option b9}{base:Heap}{f:Addr}{fd:D6}
noncomputable def mz:List V:=[.str "urn",.str "rule",.str "kind",.str "ball",.str "draws",.str "number",.str "not even",.str "counts",.str "not alike",.str "note"]
noncomputable def CZ:Option Nat->V
 | none=>.non
 | some i=>mz.getD i .non
theorem BZ:∀i:Nat,i<10->FD mz (i:Int)=some (mz.getD i .non):=by
 intro i hi
 exact E3 (by rw[f6 (show i<mz.length from hi),E2,f6 (show i<mz.length from hi)];rfl)
noncomputable def Out (c:Nat->Addr) (H:Hp) (Q:VK) (E:XK):Option Nat->Prop
 | none=>∀v H1,i7 H H1->Q v H1
 | some i=>∀H1,i7 H H1->E (.ref (c i)) none H1
noncomputable def gU (P:j6) (w:r9) (K:m9) (mg:Str->Option b9) (base:Heap) (k:Nat) (c:Nat->Addr):Sp:=fun vs H Q _=>∃(fa:Addr) (spL:Sp) (fo:Obj) (fd:D6) (o:Option Nat),vs=[.ref fa]/\H fa=some (KN fo)/\fo.data=.func fd /\
 Ai fd ⟨[],[]⟩=pure []/\N0 P w K mg base (kT P w) k fa fd [] spL/\(∀i,o=some i->i<10)/\(∀Q' E',Out c H Q' E' o->spL [] H Q' E')/\∀H',i7 H H'->Q (CZ o) H'
noncomputable abbrev mH:Stmt:=fE 62
theorem bJ:D9 ["_law_call","_law_error","e","_law_sorts","_law_words"] ["_law_call"] (A1 mH):=⟨rfl,rfl,rfl,by decide +kernel,rfl,by decide +kernel,by decide +kernel⟩
theorem xZ {c:Nat->Addr}{Bs:Addr}{k:Nat} (FF:bT K "_law_refused" "_law_refused" mH f fd) (B:Bt mg) (R:yO K mg c Bs) (hVE:mg "ValueError"=none):N0 P w K mg base dI (k+1) f fd ["_law_call"] (gU P w K mg base k c):=by
 refine FF.ok bJ (fun vs H Q E h=>?_) (fun cdv A outer s H vs Q E hr h=>?_)
 ·obtain ⟨fa,spL,fo,fd,o,rfl,_⟩:=h
  rfl
 obtain ⟨fa,spL,fo,fd',o,rfl,kn,hfd,bnd,FL,ho,hsp,q⟩:=h
 refine ⟨_,m7 (F9 (i:=1) bJ.nd rfl (A2 rfl) kC)
  (m7 (ET (k:=k) (iC:=0) (iE:=2) (iR:=1) rfl rfl hr bJ.nd rfl (A2 rfl) rfl rfl rfl rfl (by decide) rfl R.eb R.bb)
  (m7 (V6 (HI (HQ (pv 1))) (t6 (D7 kC)) K9)
  (m7 (F9 (i:=3) bJ.nd rfl (A2 rfl) (N8 (b7 (u5 aM rfl B.isinstance B4 (b7 (pv 1) (b7 (Z4 (v:=.ref (c 0)) rfl R.e0 rfl) d8))) (b7 (u5 aM rfl B.isinstance B4 (b7 (pv 1) (b7 (Z4 (v:=.ref (c 1)) rfl R.e1 rfl) d8))) (b7 (u5 aM rfl B.isinstance B4 (b7 (pv 1) (b7 (Z4 (v:=.ref (c 2)) rfl R.e2 rfl) d8))) (b7 (u5 aM rfl B.isinstance B4 (b7 (pv 1) (b7 (Z4 (v:=.ref (c 3)) rfl R.e3 rfl) d8))) d8))))))
  (m7 (F9 (i:=3) bJ.nd rfl (A2 rfl) (D5 kF (pv 3) (N8 (b7 (u5 aM rfl B.isinstance B4 (b7 (pv 1) (b7 (Z4 (v:=.ref (c 4)) rfl R.e4 rfl) d8))) (b7 (u5 aM rfl B.isinstance B4 (b7 (pv 1) (b7 (Z4 (v:=.ref (c 5)) rfl R.e5 rfl) d8))) (b7 (u5 aM rfl B.isinstance B4 (b7 (pv 1) (b7 (Z4 (v:=.ref (c 6)) rfl R.e6 rfl) d8))) d8))))))
  (m7 (F9 (i:=3) bJ.nd rfl (A2 rfl) (D5 kF (pv 3) (N8 (b7 (u5 aM rfl B.isinstance B4 (b7 (pv 1) (b7 (Z4 (v:=.ref (c 7)) rfl R.e7 rfl) d8))) (b7 (u5 aM rfl B.isinstance B4 (b7 (pv 1) (b7 (Z4 (v:=.ref (c 8)) rfl R.e8 rfl) d8))) (b7 (u5 aM rfl B.isinstance B4 (b7 (pv 1) (b7 (Z4 (v:=.ref (c 9)) rfl R.e9 rfl) d8))) d8))))))
  (m7 (V6 (PW.pt (pL (bo (ar (u5 aM rfl B.isinstance B4 (b7 (pv 1) (b7 (Y7 rfl hVE FA) d8)))))
   (kz (R7 jU (u5 (cu rfl) rfl B.sum Ag (b7 (N4 (N:=["_law_one"]) (ix:=[none]) (ifs:=[]) (tc:=S1) rfl (dc (pv 3))
    (fun s H ex=>aj (i:=0) (by decide +kernel) rfl (A2 rfl) (.inr rfl)) (fun s H ex=>M4) (fun s H ex=>G7 eU rfl B.int jX (b7 (pv 0) d8)) rfl (by decide +kernel) (by rfl) (by rfl) (fun _=>rfl)) d8)) j0 (O8 _)))))
   (t6 (D7 jh)) K9)
  (@m7 _ _ _ _ _ (@F9 _ _ 4 _ _ _ _ bJ.nd rfl (A2 rfl) (@N8 _ _ _ _ (mR rfl)) rfl (.inl rfl))
  (t6 (D7 (G4 R8 (pv 4) (CW gO PySem.F.slot_list_index PySem.F.type_list_index AL (pv 3) (b7 dF d8)) (fun _ _=>rfl))))))))))),?_⟩
 refine ⟨fa,spL,rfl,⟨fo,fd',kn,hfd,bnd,FL⟩,hsp _ _ ?_⟩
 cases o with
 | none=>exact fun v H1 g1=>⟨_,rfl,_,rfl,V0 (q H1 g1)⟩
 | some i =>
  have hi:=ho i rfl
  intro H1 g1
  refine ⟨c i,rfl,R.sub i hi,fun a oe x na=>?_⟩
  have g2:i7 H (n5 H1 a (KN oe)):=g1.trans (i7.new na)
  have ha2:n5 H1 a (KN oe) a=some (KN oe):=f7
  generalize n5 H1 a (KN oe)=H2 at g2 ha2
  refine ⟨_,rfl,_,rfl,W3 ?_⟩
  refine ⟨_,rfl,a,oe,c i,_,_,_,rfl,ha2,x,R.xi i hi,rfl,R.one i 0 hi (by decide),_,rfl,a,oe,c i,_,_,_,rfl,ha2,x,R.xi i hi,rfl,R.one i 1 hi (by decide),_,rfl,a,oe,c i,_,_,_,rfl,ha2,x,R.xi i hi,rfl,R.one i 2 hi (by decide),_,rfl,a,oe,c i,_,_,_,rfl,ha2,x,R.xi i hi,rfl,R.one i 3 hi (by decide),(by show 4<=i6;decide),fun p hp=>?_⟩
  have g3:i7 H2 (n5 H2 p (.lst [.bl (decide (i=0)),.bl (decide (i=1)),.bl (decide (i=2)),.bl (decide (i=3))])):=i7.new hp
  have hp3:n5 H2 p (.lst [.bl (decide (i=0)),.bl (decide (i=1)),.bl (decide (i=2)),.bl (decide (i=3))]) p=some (.lst [.bl (decide (i=0)),.bl (decide (i=1)),.bl (decide (i=2)),.bl (decide (i=3))]):=f7
  have ha3:=g3 _ _ ha2
  show iO _ _ _ _ (n5 H2 p (.lst [.bl (decide (i=0)),.bl (decide (i=1)),.bl (decide (i=2)),.bl (decide (i=3))]))
  generalize n5 H2 p (.lst [.bl (decide (i=0)),.bl (decide (i=1)),.bl (decide (i=2)),.bl (decide (i=3))])=H3 at g3 hp3 ha3
  refine ⟨_,rfl,_,rfl,a,oe,c i,_,_,_,rfl,ha3,x,R.xi i hi,rfl,R.one i 4 hi (by decide),_,rfl,a,oe,c i,_,_,_,rfl,ha3,x,R.xi i hi,rfl,R.one i 5 hi (by decide),_,rfl,a,oe,c i,_,_,_,rfl,ha3,x,R.xi i hi,rfl,R.one i 6 hi (by decide),(by show 3<=i6;decide),fun p2 hp2=>⟨p,p2,_,_,rfl,rfl,(by rw[C0 (v5 hp3 hp2)];exact hp3),f7,(by show 4+3<=i6;decide),fun p4 hp4=>?_⟩⟩
  obtain ⟨H5,g5,hp5,e5⟩:∃H5,i7 H3 H5/\H5 p4=some (.lst [.bl (decide (i=0)),.bl (decide (i=1)),.bl (decide (i=2)),.bl (decide (i=3)),.bl (decide (i=4)),.bl (decide (i=5)),.bl (decide (i=6))])/\H5=n5 (n5 H3 p2 (.lst [.bl (decide (i=4)),.bl (decide (i=5)),.bl (decide (i=6))])) p4 (.lst [.bl (decide (i=0)),.bl (decide (i=1)),.bl (decide (i=2)),.bl (decide (i=3)),.bl (decide (i=4)),.bl (decide (i=5)),.bl (decide (i=6))]):=⟨_,(i7.new hp2).trans (i7.new hp4),f7,rfl⟩
  show iO _ _ _ _ (n5 (n5 H3 p2 (.lst [.bl (decide (i=4)),.bl (decide (i=5)),.bl (decide (i=6))])) p4 (.lst [.bl (decide (i=0)),.bl (decide (i=1)),.bl (decide (i=2)),.bl (decide (i=3)),.bl (decide (i=4)),.bl (decide (i=5)),.bl (decide (i=6))]))
  rw[<- e5]
  clear e5
  have ha5:=g5 _ _ ha3
  refine ⟨_,rfl,_,rfl,a,oe,c i,_,_,_,rfl,ha5,x,R.xi i hi,rfl,R.one i 7 hi (by decide),_,rfl,a,oe,c i,_,_,_,rfl,ha5,x,R.xi i hi,rfl,R.one i 8 hi (by decide),_,rfl,a,oe,c i,_,_,_,rfl,ha5,x,R.xi i hi,rfl,R.one i 9 hi (by decide),(by show 3<=i6;decide),fun p5 hp5'=>⟨p4,p5,_,_,rfl,rfl,(by rw[C0 (v5 hp5 hp5')];exact hp5),f7,(by show 7+3<=i6;decide),fun p6 hp6=>?_⟩⟩
  obtain ⟨H7,g6,hl7,e7⟩:∃H7,i7 H5 H7/\H7 p6=some (.lst ((zW i).map V.bl))/\H7=n5 (n5 H5 p5 (.lst [.bl (decide (i=7)),.bl (decide (i=8)),.bl (decide (i=9))])) p6 (.lst ((zW i).map V.bl)):=⟨_,(i7.new hp5').trans (i7.new hp6),f7,rfl⟩
  show iO _ _ _ _ (n5 (n5 H5 p5 (.lst [.bl (decide (i=7)),.bl (decide (i=8)),.bl (decide (i=9))])) p6 (.lst ((zW i).map V.bl)))
  rw[<- e7]
  clear e7
  have ha7:=g6 _ _ ha5
  have g7:i7 H H7:=((g2.trans g3).trans g5).trans g6
  refine ⟨_,rfl,a,oe,c i,_,_,_,rfl,ha7,x,R.xi i hi,rfl,R.val i hi,_,rfl,W3 ?_⟩
  refine ⟨_,rfl,p6,rfl,⟨_,.of hl7⟩,qp (K:=K) (a:=p6) (xs:=(zW i).map V.bl) (by rw[d6];exact Ir i) (fun j ys H2=>i7 H7 H2/\j<=10/\ys=((zW i).take j).map fun b=>V.int (if b then 1 else 0)) ⟨i7.refl _,u9 _,rfl⟩ (fun j ys H2 h=>?_) (fun j ys H2 _ h=>.of (h.1 _ _ hl7)) rfl (fun j ys H2 v hv h=>?_) (fun ys H2 h=>?_)⟩
  ·obtain ⟨_,hj,rfl⟩:=h
   rw[d6,y7,uF];lia
  ·obtain ⟨hS,hj,rfl⟩:=h
   rw[A4] at hv
   obtain ⟨b,hb,ev⟩:=Option.map_eq_some_iff.mp hv
   subst ev
   refine ⟨_,rfl,.inr ⟨b,rfl,hS,?_,?_⟩⟩
   ·have:=(List.getElem?_eq_some_iff.mp hb).1
    rw[uF] at this
    exact this
   ·rw[D2,hb,A3];rfl
  ·obtain ⟨hS,hj,rfl⟩:=h
   intro pz hpz
   refine ⟨pz,((zW i).take ((zW i).map V.bl).length).map (fun b=>if b then 1 else 0),rfl,.inl (.of (by rw[f7,R4];rfl)),rfl,_,rfl,?_⟩
   rw[d6,D4,Iq i hi]
   refine W3 ⟨(by show 10<=i6;decide),fun pw hpw=>?_⟩
   have gz:=(hS.trans (i7.new (o:=.lst (((zW i).map fun b=>V.int (if b then 1 else 0)))) hpz)).trans (i7.new (o:=.lst mz) hpw)
   refine ⟨_,rfl,_,rfl,.inl ⟨rfl,_,.of (gz _ _ hl7)⟩,p6,zW i,i,rfl,rfl,gz _ _ hl7,(Gh i hi).1,(Gh i hi).2,pw,_,_,_,rfl,rfl,.of f7,BZ i hi,q _ (g7.trans gz)⟩
end
variable {ns:List Int}{k:Nat}
theorem lS (h:k<ns.length):FD (ns.map V.int) (k:Int)=some (.int (ns.getD k 0)):=by
 refine E3 ?_
 rw[A4,f6 h,E2,f6 h];rfl
noncomputable def lT (x:Int) (b:Bool):Prop:=b=false->0<=x/\x<2147483647
section
variable {P:j6}{w:r9}{K:m9}{mg:Str->Option b9}{base:Heap}{f:Addr}{fd:D6}
noncomputable def kl (K:m9):Sp:=fun vs H Q _=>∃(a:Addr) (ns:List Int) (k:Nat),vs=[.ref a,.int k]/\eV K H a (ns.map V.int)/\∀x,Q (.int x) H
noncomputable abbrev mL:Stmt:=fE 43
theorem xM:D9 ["_law_script","_law_k"] ["_law_script","_law_k"] (A1 mL):=⟨rfl,rfl,rfl,by decide +kernel,rfl,by decide +kernel,by decide +kernel⟩
theorem yd (F:bT K "_law_cell_at" "_law_cell_at" mL f fd) (B:Bt mg):N0 P w K mg base dI 1 f fd ["_law_script","_law_k"] (kl K):=by
 refine F.ok xM (fun vs H Q E h=>?_) (fun cdv A outer s H vs Q E hr h=>?_)
 ·obtain ⟨a,ns,k,rfl,_⟩:=h
  rfl
 obtain ⟨a,ns,k,rfl,ha,q⟩:=h
 refine ⟨_,m7 (V6 (R7 Ge (pv 1) (u5 D8 rfl B.len C8 (b7 (pv 0) d8)) (O8 _)) (t6 (D7 (G4 R8 (pv 0) (pv 1) (fun _ _=>rfl)))) K9)
  (t6 (D7 j0)),?_⟩
 refine ⟨_,rfl,_,rfl,a,_,rfl,.inl ha,_,_,rfl,rfl,_,rfl,?_⟩
 refine yA (fun c=>?_) (fun c=>q 0)
 have c':(k:Int)<(((ns.map V.int).length:Nat):Int):=of_decide_eq_true c
 rw[d6] at c'
 exact ⟨_,rfl,_,rfl,a,_,_,_,rfl,rfl,ha,lS (by lia),q _⟩
noncomputable def oZ (K:m9):Sp:=fun vs H Q _=>∃(a:Addr) (ns:List Int) (k:Nat),vs=[.ref a,.int k]/\eV K H a (ns.map V.int)/\∀l x b,H l=none->lT x b->Q (.ref l) (n5 H l (.lst [.int x,.bl b]))
noncomputable abbrev tQ:Stmt:=fE 44
theorem vB:D9 ["_law_script","_law_k","_law_cell"] ["_law_script","_law_k"] (A1 tQ):=⟨rfl,rfl,rfl,by decide +kernel,rfl,by decide +kernel,by decide +kernel⟩
theorem Dg (F:bT K "_law_state" "_law_state" tQ f fd) (c1:V4 P w K mg base 1 "_law_cell_at" ["_law_script","_law_k"] (kl K)):N0 P w K mg base dI 2 f fd ["_law_script","_law_k"] (oZ K):=by
 refine F.ok vB (fun vs H Q E h=>?_) (fun cdv A outer s H vs Q E hr h=>?_)
 ·obtain ⟨a,ns,k,rfl,_⟩:=h
  rfl
 obtain ⟨a,ns,k,rfl,ha,q⟩:=h
 refine ⟨_,m7 (F9 (i:=2) vB.nd rfl (A2 rfl) (B9 c1 hr rfl (b7 (pv 0) (b7 (pv 1) d8))))
  (m7 (V6 (R7 Ks (pv 2) (D5 kD j0 j0) (O8 _)) (t6 (D7 (N8 (b7 (D5 HR (pv 2) (D5 kD j0 j0)) (b7 dF d8))))) K9)
  (t6 (D7 (N8 (b7 (D5 dS (pv 2) j0) (b7 dF d8)))))),?_⟩
 have hp:Lm 10 18:=⟨by decide,by decide,by decide⟩
 refine ⟨_,rfl,_,rfl,a,ns,k,rfl,ha,fun x=>?_⟩
 refine ⟨_,rfl,_,_,rfl,rfl,hp,_,_,rfl,rfl,_,rfl,?_⟩
 refine yA (fun c=>?_) (fun c=>?_)
 ·exact ⟨_,rfl,_,_,rfl,rfl,hp,_,_,rfl,rfl,(by show 2<=i6;decide),fun l hl=>q l _ _ hl (fun z=>by cases z)⟩
 ·exact ⟨_,rfl,_,_,rfl,rfl,(by show (0:Int)<2147483647;decide),(by show 2<=i6;decide),fun l hl=>q l _ _ hl (fun _=>⟨cB _ (by decide),aD _ (by decide)⟩)⟩
noncomputable def ba:Sp:=fun vs H Q _=>∃(l:Addr) (m x:Int) (b:Bool),vs=[.ref l,.int m]/\H l=some (.lst [.int x,.bl b])/\lT x b/\1<=m/\m<=1000 /\
 ∀(y:Nat) (x':Int),(y:Int)<m->lT x' b->Q (.int y) (n5 H l (.lst [.int x',.bl b]))
noncomputable abbrev xN:Stmt:=fE 45
theorem ou:D9 ["_law_state_here","_law_many","_law_found","_law_mixed"] ["_law_state_here","_law_many"] (A1 xN):=⟨rfl,rfl,rfl,by decide +kernel,rfl,by decide +kernel,by decide +kernel⟩
theorem Fh (F:bT K "_law_take" "_law_take" xN f fd):N0 P w K mg base dI 1 f fd ["_law_state_here","_law_many"] ba:=by
 refine F.ok ou (fun vs H Q E h=>?_) (fun cdv A outer s H vs Q E hr h=>?_)
 ·obtain ⟨l,m,x,b,rfl,_⟩:=h
  rfl
 obtain ⟨l,m,x,b,rfl,hl,hst,m1,m2,q⟩:=h
 refine ⟨_,m7 (V6 (ar (G4 R8 (pv 0) j0 (fun _ _=>rfl)))
   (m7 (F9 (i:=2) ou.nd rfl (A2 rfl) (D5 dS (G4 R8 (pv 0) j0 (fun _ _=>rfl)) (pv 1)))
   (m7 (pM (D5 zy (G4 R8 (pv 0) j0 (fun _ _=>rfl)) (pv 1)) (tZ (pv 0) j0 lr))
   (t6 (D7 (pv 2))))) K9)
  (m7 (pM (D5 dS (D5 Z5 (D5 kE (G4 R8 (pv 0) j0 (fun _ _=>rfl)) j0) j0) j0) (tZ (pv 0) j0 lr))
  (m7 (F9 (i:=3) ou.nd rfl (A2 rfl) (D5 dS (D5 Z5 (D5 Z5 (D5 kE (G4 R8 (pv 0) j0 (fun _ _=>rfl)) (G4 R8 (pv 0) j0 (fun _ _=>rfl))) (D5 kE j0 (G4 R8 (pv 0) j0 (fun _ _=>rfl)))) j0) j0))
  (m7 (F9 (i:=3) ou.nd rfl (A2 rfl) (D5 dS (D5 Z5 (D5 kE (pv 3) (pv 3)) (D5 kE j0 (pv 3))) j0))
  (t6 (D7 (D5 dS (D5 zy (pv 3) j0) (pv 1))))))),?_⟩
 have fin:∀(z x':Int),lT x' b->Q (.int (z % m)) (n5 H l (.lst [.int x',.bl b])):=fun z x' h=>by
  have h1:=cB z (show m≠0 by lia)
  have h2:=aD z (show 0<m by lia)
  have e:z % m=(((z % m).toNat:Nat):Int):=by lia
  rw[e]
  exact q _ x' (by lia) h
 refine ⟨_,rfl,l,_,_,_,rfl,rfl,.of hl,E3 (j:=1) rfl,_,rfl,?_⟩
 cases b with
 | true =>
  refine V0 ⟨_,rfl,l,_,_,_,rfl,rfl,.of hl,E3 (j:=0) rfl,_,rfl,_,_,rfl,rfl,(by lia),?_⟩
  refine ⟨_,rfl,l,_,_,_,rfl,rfl,.of hl,E3 (j:=0) rfl,_,rfl,_,_,rfl,rfl,⟨by lia,by lia⟩,_,rfl,l,_,_,0,rfl,rfl,hl,rfl,?_⟩
  exact ⟨_,rfl,fin _ _ (fun z=>by cases z)⟩
 | false =>
  obtain ⟨x0,x1⟩:=hst rfl
  refine W3 ⟨_,rfl,l,_,_,_,rfl,rfl,.of hl,E3 (j:=0) rfl,_,_,rfl,rfl,.inl ⟨by lia,by lia⟩,_,_,rfl,rfl,_,_,rfl,rfl,(by show (0:Int)<2147483647;decide),_,rfl,l,_,_,0,rfl,rfl,hl,rfl,?_⟩
  have y0:=cB (x*48271+29) (show (2147483647:Int)≠0 by decide)
  have y1:=aD (x*48271+29) (show (0:Int)<2147483647 by decide)
  show iO _ _ _ _ (n5 H l (.lst [.int ((x*48271+29) % 2147483647),.bl false]))
  generalize (x*48271+29) % 2147483647=y at y0 y1
  have hl2:n5 H l (.lst [.int y,.bl false]) l=some (.lst [.int y,.bl false]):=f7
  refine ⟨_,rfl,l,_,_,_,rfl,rfl,.of hl2,E3 (j:=0) rfl,_,rfl,l,_,_,_,rfl,rfl,.of hl2,E3 (j:=0) rfl,_,_,rfl,rfl,.inl ⟨by lia,by lia⟩,_,rfl,l,_,_,_,rfl,rfl,.of hl2,E3 (j:=0) rfl,_,_,rfl,rfl,.inr ⟨by lia,by lia⟩,_,_,rfl,rfl,_,_,rfl,rfl,_,_,rfl,rfl,(by show (0:Int)<2147483629;decide),?_⟩
  have z0:=cB (y*y+39373*y+7) (show (2147483629:Int)≠0 by decide)
  have z1:=aD (y*y+39373*y+7) (show (0:Int)<2147483629 by decide)
  generalize (y*y+39373*y+7) % 2147483629=z at z0 z1
  refine ⟨_,rfl,_,rfl,_,_,rfl,rfl,.inl ⟨by lia,by lia⟩,_,rfl,_,_,rfl,rfl,.inr ⟨by lia,by lia⟩,_,_,rfl,rfl,_,_,rfl,rfl,(by show (0:Int)<2147483587;decide),?_⟩
  exact ⟨_,rfl,_,_,rfl,rfl,⟨by decide,by decide⟩,_,rfl,_,_,rfl,rfl,(by lia),fin _ _ (fun _=>⟨y0,y1⟩)⟩
end
structure Bt2 (mg:Str->Option b9):Prop where
 any:mg "any"=none
theorem wG:X4 "any"=some (.builtin "any"):=by decide +kernel
theorem oK:∀{ns:List Int},(∀x∈ns,0<=x)->(ns.map V.int).any mC=decide (0<ns.sum)
 | [],_=>rfl
 | a::ns,h=>by
  have h1:=h a j8
  have h2:=Mt.fe (l:=ns) fun x hx=>h x (j9 _ hx)
  rw[B7,List.any_cons,oK fun x hx=>h x (j9 _ hx),Y9]
  show ((a != 0) || _)=_
  by_cases ha:a=0
  ·subst ha
   rw[Mi];rfl
  ·rw[bne_iff_ne.mpr ha,Bool.true_or,decide_eq_true (by lia)]
noncomputable def Gy:B0->Bool
 | .int _=>true
 | _=>false
theorem Aq (h:Gy d=false):S7 lo hi d=false:=by
 cases d with
 | int i=>cases h
 | _=>rfl
section
variable {P:j6}{w:r9}{K:m9}{mg:Str->Option b9}{base:Heap}{f:Addr}{fd:D6}
noncomputable def eM:Sp:=fun vs H Q _=>∃(v:V) (st:Addr) (d:B0),vs=[v]/\Dt st H d v/\Q (.bl (Gy d)) H
noncomputable abbrev tM:Stmt:=fE 51
theorem Cw:D9 ["_law_thing"] ["_law_thing"] (A1 tM):=⟨rfl,rfl,rfl,by decide +kernel,rfl,by decide +kernel,by decide +kernel⟩
theorem Dd (F:bT K "_law_whole" "_law_whole" tM f fd) (B:Bt mg):N0 P w K mg base dI 1 f fd ["_law_thing"] eM:=by
 refine F.ok Cw (fun vs H Q E h=>?_) (fun cdv A outer s H vs Q E hr h=>?_)
 ·obtain ⟨v,st,d,rfl,_⟩:=h
  rfl
 obtain ⟨v,st,d,rfl,hd,q⟩:=h
 refine ⟨_,t6 (D7 (dR (u5 (W4 zF) rfl B.isinstance B4 (b7 (pv 0) (b7 (Y7 rfl B.int jX) d8)))
  (cP (ud (u5 (W4 lJ) rfl B.isinstance B4 (b7 (pv 0) (b7 (Y7 rfl B.bool Ed) d8))))))),?_⟩
 refine ⟨_,rfl,v,st,d,rfl,hd,_,rfl,?_⟩
 cases d with
 | bool b=>exact V0 ⟨_,rfl,v,st,_,rfl,hd,_,rfl,q⟩
 | int i=>exact V0 ⟨_,rfl,v,st,_,rfl,hd,_,rfl,q⟩
 | _=>exact W3 q
theorem vZ {c1:Unit}{st:Addr}{H:Hp}{hi:Int}{x:V}{d:B0}{Q:VK} (dt:Dt st H d x) (q:Q (.bl (S7 0 hi d)) H):
  Ga (GM eM (bM (T6 0) mD)) (xA (vL fun i j=>.bl (decide (i<=j))) (vL fun i j=>.bl (decide (i<=j))) (tC (.int 0)) (T6 0) (tC (.int hi))) [some x] H Q:=by
 refine ⟨_,rfl,x,st,d,rfl,dt,_,rfl,?_⟩
 cases d with
 | int i =>
  refine V0 ?_
  unfold Dt at dt
  subst dt
  refine ⟨_,rfl,0,i,rfl,rfl,_,rfl,?_⟩
  have q':Q (.bl (decide (0<=i)&&decide (i<=hi))) H:=q
  by_cases h1:0<=i
  ·rw[decide_eq_true h1,Q8] at q'
   rw[decide_eq_true h1]
   exact V0 ⟨i,hi,rfl,rfl,q'⟩
  ·rw[decide_eq_false h1,O3] at q'
   rw[decide_eq_false h1]
   exact W3 q'
 | _=>exact W3 q
noncomputable abbrev mJ:Stmt:=fE 52
theorem xG:D9 ["_law_thing"] ["_law_thing"] (A1 mJ):=⟨rfl,rfl,rfl,by decide +kernel,rfl,by decide +kernel,by decide +kernel⟩
theorem yb (F:bT K "_law_is_urn" "_law_is_urn" mJ f fd) (B:Bt mg) (B2:Bt2 mg) (c1:V4 P w K mg base 1 "_law_whole" ["_law_thing"] eM):N0 P w K mg base dI 2 f fd ["_law_thing"] eO:=by
 refine F.ok xG (fun vs H Q E h=>?_) (fun cdv A outer s H vs Q E hr h=>?_)
 ·obtain ⟨v,st,d,rfl,_⟩:=h
  rfl
 obtain ⟨v,st,d,rfl,hd,hl,q⟩:=h
 refine ⟨_,m7 (V6 (PW.pt (pL (bo (ar (u5 (W4 iq) rfl B.isinstance B4 (b7 (pv 0) (b7 (Y7 rfl B.tuple J6) d8)))))
   (kz (bo (CM iH iH j0 (u5 D8 rfl B.len C8 (b7 (pv 0) d8)) j0))))) (t6 (D7 dF)) K9)
  (t6 (D7 (dR (u5 (cw rfl) rfl B.all Ah (b7 (N4 (N:=["_law_many"]) (ix:=[none]) (ifs:=[]) (tc:=S1) rfl (pP (pv 0)) (fun s H ex=>aj (i:=0) (by decide +kernel) rfl (A2 rfl) (.inr rfl)) (fun s H ex=>M4) (fun s H ex=>dR (B9 c1 hr rfl (b7 (pv 0) d8)) (cP (ji iH iH j0 (pv 0) j0))) rfl (by decide +kernel) (by rfl) (by rfl) (fun _=>rfl)) d8)) (cP (u5 (lR rfl) rfl B2.any wG (b7 (pv 0) d8)))))),?_⟩
 refine ⟨_,rfl,v,st,d,rfl,hd,_,rfl,?_⟩
 have no:(∀ds,d=.tuple ds->¬ (1<=ds.length/\ds.length<=4) ∨ ds.all (S7 0 20)=false)->dB 20 d=false:=fun h=>by
  unfold dB
  cases d with
  | tuple ds =>
   rcases h ds rfl with z|z
   ·show (ds.all (S7 0 20)&&((decide ((1:Int)<=(ds.length:Int))&&decide ((ds.length:Int)<=4))&&_))=false
    have:(decide ((1:Int)<=(ds.length:Int))&&decide ((ds.length:Int)<=4))=false:=by
     rw[Bool.and_eq_false_iff,decide_eq_false_iff_not,decide_eq_false_iff_not];lia
    rw[this,O3,uQ]
   ·show (ds.all (S7 0 20)&&_)=false
    rw[z,O3]
  | _=>rfl
 cases d with
 | tuple ds =>
  obtain ⟨a,xs,e,ne,ha,hds⟩:=hd.untup
  subst e
  have hlen:=hds.len
  refine W3 ⟨_,rfl,a,xs,rfl,.inr (.of ha),_,_,rfl,rfl,_,rfl,?_⟩
  have qb:∀(b:Bool) (H':Hp),i7 H H'->dB 20 (.tuple ds)=b->Q (.bl b) H':=fun b H' g e=>by rw[<- e];exact q H' g
  have bad:¬ (1<=ds.length/\ds.length<=4)->Q (.bl false) H:=fun z=>qb false H (i7.refl H) (no fun ds' e=>by cases e;exact .inl z)
  rw[<- hlen]
  by_cases h1:(1:Int)<=(ds.length:Int)
  ·rw[decide_eq_true h1]
   refine V0 ⟨_,_,rfl,rfl,_,rfl,?_⟩
   by_cases h4:(ds.length:Int)<=4
   ·rw[decide_eq_true h4]
    refine W3 ⟨_,rfl,a,rfl,⟨xs,.of ha⟩,oJ (K:=K) (a:=a) (xs:=xs) (sz (by lia)) (fun i ys H2=>i7 H H2/\i<=ds.length/\ys=(ds.take i).map fun d=>V.bl (S7 0 20 d)) ⟨i7.refl H,u9 _,rfl⟩ (fun i ys H2 h=>?_) (fun i ys H2 _ h=>.of (h.1 _ _ ha)) rfl (fun i ys H2 x hx h=>?_) (fun ys H2 h=>?_)⟩
    ·obtain ⟨_,hi,rfl⟩:=h
     rw[d6,y7];lia
    ·obtain ⟨hS,hil,rfl⟩:=h
     obtain ⟨d,hd',dt⟩:=hds.get hx
     refine vZ (c1:=()) (hi:=20) (dt.kp (hS.kp st)) ⟨hS,(List.getElem?_eq_some_iff.mp hd').1,?_⟩
     rw[D2,hd',A3];rfl
    ·obtain ⟨hS,hil,rfl⟩:=h
     intro p hp
     have e:(((ds.take xs.length).map fun d=>V.bl (S7 0 20 d)).all mC)=O6 0 20 (.tuple ds):=by
      rw[<- hlen,D4,P6];rfl
     refine ⟨p,_,rfl,.inl (.of f7),(by rw[P6];exact List.all_eq_true.mpr fun _ _=>rfl),_,rfl,?_⟩
     rw[e]
     cases hw:O6 0 20 (.tuple ds) with
     | false =>
      exact W3 (qb false _ (hS.trans (i7.new hp)) (no fun ds' e=>by cases e;exact .inr hw))
     | true =>
      obtain ⟨ns,e,hns⟩:=qt (show ds.all (S7 0 20)=true from hw)
      subst e
      have hxs:=hds.ints_eq
      subst hxs
      have hlen2:(ns.map dM).length=ns.length:=d6 ..
      refine V0 ⟨_,rfl,a,_,rfl,.inr (.of ((hS.trans (i7.new hp)) _ _ ha)),(by rw[P6];exact List.all_eq_true.mpr fun _ _=>rfl),?_⟩
      rw[hlen2] at h1 h4
      refine qb _ _ (hS.trans (i7.new hp)) ?_
      unfold dB
      rw[U5,oq,hw,Q8,decide_eq_true h1,decide_eq_true h4,Q8,Q8,oK fun x hx=>(hns x hx).1]
   ·rw[decide_eq_false h4]
    exact V0 (bad fun z=>h4 (by lia))
  ·rw[decide_eq_false h1]
   exact W3 ⟨_,rfl,V0 (bad fun z=>h1 (by lia))⟩
 | _=>exact V0 (V0 (by have:=q H (i7.refl H);rw[no fun ds e=>by cases e] at this;exact this))
noncomputable def iY:Sp:=fun vs H Q _=>∃(v:V) (st:Addr) (d:B0) (k:Int),vs=[.int k,v]/\Dt st H d v/\k<=1000/\∀H',i7 H H'->Q (.bl (fi k d)) H'
noncomputable abbrev ko:Stmt:=fE 53
theorem nI:D9 ["_law_kinds","_law_thing","_law_row"] ["_law_kinds","_law_thing"] (A1 ko):=⟨rfl,rfl,rfl,by decide +kernel,rfl,by decide +kernel,by decide +kernel⟩
theorem vS (F:bT K "_law_is_rule" "_law_is_rule" ko f fd) (B:Bt mg) (c1:V4 P w K mg base 1 "_law_whole" ["_law_thing"] eM):N0 P w K mg base dI 2 f fd ["_law_kinds","_law_thing"] iY:=by
 refine F.ok nI (fun vs H Q E h=>?_) (fun cdv A outer s H vs Q E hr h=>?_)
 ·obtain ⟨v,st,d,k,rfl,_⟩:=h
  rfl
 obtain ⟨v,st,d,k,rfl,hd,hk1000,q⟩:=h
 refine ⟨_,m7 (V6 (PW.pt (pL (bo (ar (u5 (W4 iq) rfl B.isinstance B4 (b7 (pv 1) (b7 (Y7 rfl B.tuple J6) d8)))))
   (kz (R7 jU (u5 D8 rfl B.len C8 (b7 (pv 1) d8)) (pv 0) (O8 _))))) (t6 (D7 dF)) K9)
  (m7 (cO J7 rfl (pP (pv 1)) (T7 (i:=2) nI.nd rfl (A2 rfl))
   (m7 (V6 (PW.pt (pL (bo (ar (u5 (W4 iq) rfl B.isinstance B4 (b7 (pv 2) (b7 (Y7 rfl B.tuple J6) d8)))))
   (kz (R7 jU (u5 D8 rfl B.len C8 (b7 (pv 2) d8)) (pv 0) (O8 _))))) (t6 (D7 dF)) K9)
   (t6 (V6 (bo (ar (u5 (cw rfl) rfl B.all Ah (b7 (N4 (N:=["_law_many"]) (ix:=[none]) (ifs:=[]) (tc:=S1) rfl (pP (pv 2)) (fun s H ex=>aj (i:=0) (by decide +kernel) rfl (A2 rfl) (.inr rfl)) (fun s H ex=>M4) (fun s H ex=>dR (B9 c1 hr rfl (b7 (pv 0) d8)) (cP (ji iH iH j0 (pv 0) j0))) rfl (by decide +kernel) (by rfl) (by rfl) (fun _=>rfl)) d8)))) (t6 (D7 dF)) K9))))
  (t6 (D7 dF))),?_⟩
 refine ⟨_,rfl,v,st,d,rfl,hd,_,rfl,?_⟩
 cases d with
 | tuple ds =>
  obtain ⟨a,xs,e,ne,ha,hds⟩:=hd.untup
  subst e
  have hlen:=hds.len
  have qr:∀(b:Bool) (H':Hp),i7 H H'->b=(decide ((ds.length:Int)=k)&&ds.all (fun r=>O6 0 5 r&&decide ((aE r:Int)=k)))->Q (.bl b) H':=fun b H' g e=>by
   have:=q H' g
   rw[e]
   exact this
  refine W3 ⟨_,rfl,a,xs,rfl,.inr (.of ha),_,rfl,rfl,_,rfl,?_⟩
  by_cases hk:(ds.length:Int)=k
  ·have e1:V.int (xs.length:Int)=V.int k:=by rw[<- hlen,hk]
   rw[decide_eq_true e1]
   refine W3 ⟨_,rfl,a,rfl,⟨xs,.of ha⟩,?_⟩
   refine Fv (K:=K) (a:=a) (xs:=xs) (fun i σ H2=>i7 H H2/\i<=ds.length/\(∃o,σ=[some (.int k),some (.ref a),o])/\(ds.take i).all (fun r=>O6 0 5 r&&decide ((aE r:Int)=k))=true) ⟨i7.refl H,u9 _,⟨_,rfl⟩,rfl⟩ (fun i σ H2 _ h=>.of (h.1 _ _ ha)) (fun i x σ H2 hx h=>?_) (fun σ H2 h=>?_)
   ·obtain ⟨g2,hi,⟨o,rfl⟩,hal⟩:=h
    obtain ⟨r,hd',dt0⟩:=hds.get hx
    have dt:=dt0.kp (g2.kp st)
    have bad:(O6 0 5 r&&decide ((aE r:Int)=k))=false->∀H3,i7 H H3->Q (.bl false) H3:=fun z H3 g3=>qr _ _ g3 (by
     rw[decide_eq_true hk,Q8]
     refine (Bool.eq_false_iff.mpr fun y=>?_).symm
     rw[List.all_eq_true.mp y r (C5 hd')] at z
     cases z)
    refine ⟨_,rfl,x,st,r,rfl,dt,_,rfl,?_⟩
    cases r with
    | tuple rs =>
     obtain ⟨b,ys,e,_,hb,hrs⟩:=dt.untup
     subst e
     have hl2:=hrs.len
     refine W3 ⟨_,rfl,b,ys,rfl,.inr (.of hb),_,rfl,rfl,_,rfl,?_⟩
     by_cases hk2:(rs.length:Int)=k
     ·have e2:V.int (ys.length:Int)=V.int k:=by rw[<- hl2,hk2]
      rw[decide_eq_true e2]
      refine W3 ⟨_,rfl,b,rfl,⟨ys,.of hb⟩,oJ (K:=K) (a:=b) (xs:=ys) (sz (by lia)) (fun j zs H3=>i7 H2 H3/\j<=rs.length/\zs=(rs.take j).map fun d=>V.bl (S7 0 5 d)) ⟨i7.refl _,u9 _,rfl⟩ (fun j zs H3 h=>?_) (fun j zs H3 _ h=>.of (h.1 _ _ hb)) rfl (fun j zs H3 y hy h=>?_) (fun zs H3 h=>?_)⟩
      ·obtain ⟨_,hj,rfl⟩:=h
       rw[d6,y7];lia
      ·obtain ⟨g3,hj,rfl⟩:=h
       obtain ⟨d,hd3,dt3⟩:=hrs.get hy
       refine vZ (c1:=()) (hi:=5) (dt3.kp (g3.kp st)) ⟨g3,(List.getElem?_eq_some_iff.mp hd3).1,?_⟩
       rw[D2,hd3,A3];rfl
      ·obtain ⟨g3,hj,rfl⟩:=h
       intro p hp
       have e:(((rs.take ys.length).map fun d=>V.bl (S7 0 5 d)).all mC)=O6 0 5 (.tuple rs):=by
        rw[<- hl2,D4,P6];rfl
       refine ⟨p,_,rfl,.inl (.of f7),(by rw[P6];exact List.all_eq_true.mpr fun _ _=>rfl),_,rfl,?_⟩
       rw[e]
       cases hw:O6 0 5 (.tuple rs) with
       | false =>
        refine V0 (bad ?_ _ ((g2.trans g3).trans (i7.new hp)))
        rw[hw,O3]
       | true =>
        refine W3 ⟨(g2.trans g3).trans (i7.new hp),(List.getElem?_eq_some_iff.mp hd').1,⟨_,rfl⟩,?_⟩
        rw[D2,hd',List.all_append,hal]
        show (true&&([PyData.tuple rs].all _))=true
        rw[wY,hw,show decide ((aE (.tuple rs):Int)=k)=true from decide_eq_true hk2];rfl
     ·have e2:¬ V.int (ys.length:Int)=V.int k:=fun e=>hk2 (by rw[hl2];injection e)
      rw[decide_eq_false e2]
      refine V0 (bad ?_ H2 g2)
      rw[show decide ((aE (.tuple rs):Int)=k)=false from decide_eq_false hk2,uQ]
    | _=>exact V0 (V0 (bad rfl H2 g2))
   ·obtain ⟨g2,_,⟨o,rfl⟩,hal⟩:=h
    rw[<- hlen,D4] at hal
    exact qr _ _ g2 (by rw[decide_eq_true hk,hal];rfl)
  ·have e1:¬ V.int (xs.length:Int)=V.int k:=fun e=>hk (by rw[hlen];injection e)
   rw[decide_eq_false e1]
   exact V0 (qr _ _ (i7.refl H) (by rw[decide_eq_false hk];rfl))
 | _=>exact V0 (V0 (q H (i7.refl H)))
end
variable {n:Nat}
theorem uv (h:k<n):Fp n (k:Int)=some k:=by
 unfold Fp
 rw[if_pos (by lia),if_pos (by lia)];simp
theorem pB:∀{l:List Int}{y:Nat}{v:Int},(∀x∈l,0<=x)->0<v->y<l.length->0<(l.set y v).sum
 | [],y,_,_,_,h=>by simp at h
 | a::l,0,v,h,hv,_=>by
  rw[List.set_cons_zero,Y9]
  have:=Mt.fe (l:=l) fun x hx=>h x (j9 _ hx)
  lia
 | a::l,y+1,v,h,hv,hy=>by
  rw[List.set_cons_succ,Y9]
  have h1:=pB (l:=l) (y:=y) (fun x hx=>h x (j9 _ hx)) hv (by simpa using hy)
  have h2:=h a j8
  lia
noncomputable abbrev DR (rs:List (List Int)):B0:=.tuple (rs.map DI)
theorem fg (h:ns.length<=1000):bN (DI ns):=fun ds e=>by
 injection e with e
 rw[<- e,d6];exact h
variable {rs:List (List Int)}
theorem vt (h:rs.length<=1000):bN (DR rs):=fun ds e=>by
 injection e with e
 rw[<- e,d6];exact h
theorem rK (h:lU n 5 rs) (hn:n<=1000):∀ds,DR rs=.tuple ds->∀r∈ds,bN r:=fun ds e r hr=>by
 injection e with e
 rw[<- e] at hr
 obtain ⟨row,hrow,e2⟩:=List.mem_map.mp hr
 rw[<- e2]
 exact fg (by rw[(h.row row hrow).len];exact hn)
theorem yH {st:Addr}(h:Dt st H (DR rs) v) (hk:k<rs.length):
  ∃r xs b,v=.ref r/\H r=some (.tup xs)/\xs[k]?=some (.ref b)/\H b=some (.tup ((rs.getD k []).map V.int)):=by
 obtain ⟨r,xs,e,_,hr,hds⟩:=h.untup
 have hl:=hds.len
 rw[d6] at hl
 have hkx:k<xs.length:=by lia
 obtain ⟨d,hd,dt⟩:=hds.get (i:=k) (x:=xs[k]) (f6 hkx)
 rw[A4,f6 hk] at hd
 have e2:rs.getD k []=rs[k]:=by rw[E2,f6 hk];rfl
 have e3:d=DI rs[k]:=(E7 hd).symm
 subst e3
 obtain ⟨b,eb,_,hb⟩:=dt.di
 exact ⟨r,xs,b,e,hr,by rw[f6 hkx,eb],by rw[e2];exact hb⟩
theorem yY (h:aq n 20 ns) (h1:1<=n) (h4:n<=4):dB 20 (DI ns)=true:=by
 unfold dB
 rw[U5,oq,h.len,decide_eq_true (show (1:Int)<=(n:Int) by lia),decide_eq_true (show (n:Int)<=4 by lia),decide_eq_true h.pos]
 have:O6 0 20 (DI ns)=true:=by
  show (ns.map dM).all (S7 0 20)=true
  rw[P6]
  refine List.all_eq_true.mpr fun x hx=>?_
  have:=h.nn x hx
  show (decide ((0:Int)<=x)&&decide (x<=20))=true
  rw[decide_eq_true this.1,decide_eq_true (show x<=20 by lia)];rfl
 rw[this];rfl
theorem CH (h:lU n 5 rs):fi n (DR rs)=true:=by
 show (decide (((rs.map DI).length:Int)=n)&&(rs.map DI).all (fun r=>O6 0 5 r&&decide ((aE r:Int)=n)))=true
 rw[d6,h.len,decide_eq_true rfl,Q8,P6]
 refine List.all_eq_true.mpr fun r hr=>?_
 have hw:=h.row r hr
 show (O6 0 5 (DI r)&&decide ((aE (DI r):Int)=n))=true
 rw[U5,hw.len,decide_eq_true rfl,Bool.and_true]
 show (r.map dM).all (S7 0 5)=true
 rw[P6]
 refine List.all_eq_true.mpr fun x hx=>?_
 have:=hw.nn x hx
 show (decide ((0:Int)<=x)&&decide (x<=5))=true
 rw[decide_eq_true this.1,decide_eq_true (show x<=5 by lia)];rfl
variable {l:Addr}{xs:List V}
theorem Ji {p:Addr}{ys:List V} (hl:H l=some (.lst xs)) (hp:H p=some (.tup ys)):p≠l:=fun e=>by rw[e,hl] at hp;cases hp
theorem Ac {st:Addr}{H:Hp}{d:B0}{v:V} (h:Dt st H d v):∀n:Nat,S3 st H (A7 n d) (A7 n v)
 | 0=>S3.nil st H
 | n+1=>S3.cons h (Ac h n)
section
variable {X:Cx}
noncomputable def Kc:R2:=fun x y H Q=>∃(a:Addr) (v:V) (k:Nat),x=.ref a/\y=.int (k:Int)/\H a=some (.tup [v])/\1<=k/\k<=4/\∀p H',i7 H H'->H' p=some (.tup (A7 k v))->Q (.ref p) H'
theorem Ka:jC X (W8 .Mult) Kc:=by
 intro pins s σ H x y v u Q I rx ry h
 obtain ⟨a,v',k,rfl,rfl,ha,h1,h4,q⟩:=h
 refine zw pins s σ H _ _ v u Q I rx ry ⟨a,v',(k:Int),rfl,rfl,.of ha,by lia,by lia,fun hk=>?_,fun hk p hp=>?_⟩
 ·have hk':k=1:=by lia
  subst hk'
  exact q a H (i7.refl H) ha
 ·exact q p _ (i7.new hp) f7
noncomputable def ig:V->Option Int->Option Int->Hp->VK->Prop:=fun x lo hi H Q=>∃(a:Addr) (xs:List V),x=.ref a/\H a=some (.tup xs)/\∀p H',i7 H H'->H' p=some (.tup (kJ xs lo hi))->Q (.ref p) H'
theorem tG:LH X ig:=by
 intro pins s σ H x v vl vu lo hi sl Q I rx hs pl pu h
 obtain ⟨a,xs,rfl,ha,q⟩:=h
 refine GR pins s σ H _ v vl vu lo hi sl Q I rx hs pl pu ⟨a,xs,rfl,.of ha,fun hw=>?_,fun hw p hp=>?_⟩
 ·refine q a H (i7.refl H) ?_
  unfold kJ
  rw[hw.1,hw.2,R5,oS,D4];exact ha
 ·exact q p _ (i7.new hp) f7
end
section
variable {P:j6}{w:r9}{K:m9}{mg:Str->Option b9}{base:Heap}{f:Addr}{fd:D6}
noncomputable def ak (l:Addr) (b:Bool) (H H':Hp):Prop:=Kp l H H'/\∃x,H' l=some (.lst [.int x,.bl b])/\lT x b
variable {l:Addr}{b:Bool}{H:Hp}
theorem ak.start {x:Int} (h:H l=some (.lst [.int x,.bl b])) (ok:lT x b):ak l b H H:=⟨Kp.refl l H,x,h,ok⟩
variable {H1:Hp}
theorem ak.same {H2:Hp} (s:ak l b H H1) (g:i7 H1 H2):ak l b H H2:=by
 obtain ⟨k,x,h,ok⟩:=s
 exact ⟨k.trans (g.kp l),x,g _ _ h,ok⟩
theorem ak.new {l:Addr}{b:Bool}{H H1:Hp}{p:Addr}{o:HO} (s:ak l b H H1) (h:H1 p=none):ak l b H (n5 H1 p o):=s.same (i7.new h)
theorem ak.trans {l:Addr}{b:Bool}{H H1 H2:Hp} (s:ak l b H H1) (t:ak l b H1 H2):ak l b H H2:=⟨s.1.trans t.1,t.2⟩
variable {p:Addr}
theorem ak.ne (s:ak l b H H1) (h:H1 p=none):l≠p:=by
 obtain ⟨_,x,e,_⟩:=s
 exact v5 e h
theorem ak.go {x:Int} (s:ak l b H H1) (ok:lT x b):ak l b H (n5 H1 l (.lst [.int x,.bl b])):=⟨s.1.trans Kp.at,x,f7,ok⟩
theorem ak.neL {xs:List V} (s:ak l b H H1) (h:H1 p=some (.tup xs)):p≠l:=fun e=>by
 obtain ⟨_,x,q,_⟩:=s
 rw[e,q] at h;cases h
theorem ak.lput {o:HO} (s:ak l b H H1) (hpl:p≠l) (hpn:H p=none):ak l b H (n5 H1 p o):=by
 obtain ⟨k,x',e,ok⟩:=s
 exact ⟨fun c o hc hco=>by rw[C0 (fun z=>by rw[z,hpn] at hco;cases hco)];exact k c o hc hco,x',by rw[C0 hpl.symm];exact e,ok⟩
noncomputable def tE:Sp:=fun vs H Q _=>∃(l:Addr) (n:Nat) (x:Int) (b:Bool),vs=[.ref l,.int n]/\H l=some (.lst [.int x,.bl b])/\lT x b/\1<=n/\n<=4 /\
 ∀(p:Addr) (H':Hp) (ns:List Int),ak l b H H'->H' p=some (.tup (ns.map V.int))->Mt.aq n 20 ns->Q (.ref p) H'
noncomputable abbrev xP:Stmt:=fE 46
theorem tJ:D9 ["_law_state_here","_law_kinds","_law_most","_law_found"] ["_law_state_here","_law_kinds"] (A1 xP):=⟨rfl,rfl,rfl,by decide +kernel,rfl,by decide +kernel,by decide +kernel⟩
theorem Fj (F:bT K "_law_urn_of" "_law_urn_of" xP f fd) (B:Bt mg) (B2:Bt2 mg) (c1:V4 P w K mg base 1 "_law_take" ["_law_state_here","_law_many"] ba):N0 P w K mg base dI 2 f fd ["_law_state_here","_law_kinds"] tE:=by
 refine F.ok tJ (fun vs H Q E h=>?_) (fun cdv A outer s H vs Q E hr h=>?_)
 ·obtain ⟨l,n,x,b,rfl,_⟩:=h
  rfl
 obtain ⟨l,n,x,b,rfl,hl,hst,n1,n4,q⟩:=h
 refine ⟨_,m7 (F9 (i:=2) tJ.nd rfl (gH rfl) (G4 R8 (N8 (b7 j0 (b7 j0 (b7 j0 (b7 j0 d8))))) (B9 c1 hr rfl (b7 (pv 0) (b7 j0 d8))) (fun _ _=>rfl)))
  (m7 (jg (N:=["_law_kind","_law_state_here","_law_most"]) (ix:=[none,some 0,some 2]) (ifs:=[]) (tc:=S1) (i:=3) rfl tJ.nd rfl rfl (P2 rfl B.range (b7 (pv 1) d8))
   (fun s H ex=>aj (i:=0) (by decide +kernel) rfl (A2 rfl) (.inr rfl)) (fun s H ex=>M4) (fun s H ex=>B9 c1 hr rfl (b7 (pv 1) (b7 (pv 2) d8))) rfl (by decide +kernel) (by rfl) (by rfl) (fun _=>rfl) (by rfl))
  (m7 (V6 (R7 jj (B9 c1 hr rfl (b7 (pv 0) (b7 j0 d8))) j0 (O8 _)) (t6 (pM j0 (tZ (pv 3) (B9 c1 hr rfl (b7 (pv 0) (b7 (pv 1) d8))) lr))) K9)
  (m7 (V6 (bo (ar (u5 (lR rfl) rfl B2.any wG (b7 (pv 3) d8)))) (t6 (pM (D5 Z5 j0 (B9 c1 hr rfl (b7 (pv 0) (b7 j0 d8)))) (tZ (pv 3) (B9 c1 hr rfl (b7 (pv 0) (b7 (pv 1) d8))) lr))) K9)
  (t6 (D7 (G7 L5 rfl B.tuple J6 (b7 (pv 3) d8))))))),?_⟩
 have s0:ak l b H H:=ak.start hl hst
 refine ⟨(by show 4<=i6;decide),fun p0 hp0=>⟨_,rfl,?_⟩⟩
 have s1:ak l b H (n5 H p0 (.lst [.int 3,.int 3,.int 6,.int 21])):=s0.new hp0
 obtain ⟨_,x1,hx1,ok1⟩:=id s1
 refine ⟨l,4,x1,b,rfl,hx1,ok1,by decide,by decide,fun y x2 hy Bx=>?_⟩
 have s2:=s1.go Bx
 have k2:Kp l (n5 H p0 (.lst [.int 3,.int 3,.int 6,.int 21])) (n5 (n5 H p0 (.lst [.int 3,.int 3,.int 6,.int 21])) l (.lst [.int x2,.bl b])):=Kp.at
 generalize n5 (n5 H p0 (.lst [.int 3,.int 3,.int 6,.int 21])) l (.lst [.int x2,.bl b])=H1 at s2 k2
 have hp1:H1 p0=some (.lst [.int 3,.int 3,.int 6,.int 21]):=k2 _ _ (s0.ne hp0).symm f7
 obtain ⟨m,hm,m1,m2⟩:∃m:Int,([.int 3,.int 3,.int 6,.int 21]:List V)[y]?=some (.int m)/\1<=m/\m<=21:=by
  have hy':y<4:=by lia
  match y,hy' with
  | 0,_=>exact ⟨3,rfl,by decide,by decide⟩
  | 1,_=>exact ⟨3,rfl,by decide,by decide⟩
  | 2,_=>exact ⟨6,rfl,by decide,by decide⟩
  | 3,_=>exact ⟨21,rfl,by decide,by decide⟩
 refine ⟨p0,_,_,_,rfl,rfl,.of hp1,E3 hm,?_⟩
 refine ⟨_,rfl,(n:Int),rfl,by lia,by lia,?_⟩
 refine Y8 (lo:=0) (n:=n) (sz (by lia)) (fun i ys H2=>ak l b H H2/\∃ns:List Int,ys=ns.map V.int/\ns.length=i/\∀z∈ns,0<=z/\z<=20)
  ⟨s2,[],rfl,rfl,by simp⟩ (fun i ys H2 h=>?_) rfl (fun i ys H2 hi h=>?_) (fun ys H2 h=>?_)
 ·obtain ⟨_,ns,rfl,hn,_⟩:=h
  rw[d6];exact hn
 ·obtain ⟨s3,ns,rfl,hn,hb⟩:=h
  obtain ⟨_,x3,hx3,ok3⟩:=id s3
  refine ⟨_,rfl,_,rfl,l,m,x3,b,rfl,hx3,ok3,m1,by lia,fun y x4 hy ok4=>?_⟩
  refine ⟨s3.go ok4,ns++[(y:Int)],by rw[A3];rfl,by rw[v9,hn];rfl,fun z hz=>?_⟩
  rcases List.mem_append.mp hz with h|h
  ·exact hb z h
  ·rw[List.mem_singleton.mp h];lia
 ·obtain ⟨s3,ns,rfl,hn,hb⟩:=h
  intro p hp
  have s4:ak l b H (n5 H2 p (.lst (ns.map V.int))):=s3.new hp
  have hpl:p≠l:=(s3.ne hp).symm
  have hpn:H p=none:=by
   cases e:H p with
   | none=>rfl
   | some o=>rw[s3.1 p o hpl e] at hp;cases hp
  have hp4:n5 H2 p (.lst (ns.map V.int)) p=some (.lst (ns.map V.int)):=f7
  show iO _ _ _ _ (n5 H2 p (.lst (ns.map V.int)))
  generalize n5 H2 p (.lst (ns.map V.int))=H3 at s4 hp4
  obtain ⟨_,x4,hx4,ok4⟩:=id s4
  refine ⟨_,rfl,l,8,x4,b,rfl,hx4,ok4,by decide,by decide,fun y8 x8 hy8 ok8=>⟨rfl,_,rfl,?_⟩⟩
  have s8:=s4.go ok8
  have k8:Kp l H3 (n5 H3 l (.lst [.int x8,.bl b])):=Kp.at
  generalize n5 H3 l (.lst [.int x8,.bl b])=H8 at s8 k8
  have hp8:=k8 _ _ hpl hp4
  refine yA (fun _=>?_) (fun _=>?_)
  ·obtain ⟨_,x9,hx9,ok9⟩:=id s8
   refine ⟨_,rfl,_,rfl,_,rfl,l,n,x9,b,rfl,hx9,ok9,by lia,by lia,fun y9 xa hy9 oka=>?_⟩
   have s9:=s8.go oka
   have k9:Kp l H8 (n5 H8 l (.lst [.int xa,.bl b])):=Kp.at
   generalize n5 H8 l (.lst [.int xa,.bl b])=H9 at s9 k9
   have hp9:=k9 _ _ hpl hp8
   have hy9':y9<ns.length:=by lia
   refine ⟨p,_,_,y9,rfl,rfl,hp9,uv (by rw[d6];exact hy9'),?_⟩
   have sA:=s9.lput (o:=.lst ((ns.map V.int).set y9 (.int 20))) hpl hpn
   have hpA:n5 H9 p (.lst ((ns.map V.int).set y9 (.int 20))) p=some (.lst ((ns.set y9 20).map V.int)):=by rw[f7,yT]
   have hnA:(ns.set y9 20).length=n:=by rw[bV];exact hn
   have hbA:∀z∈ns.set y9 20,0<=z/\z<=20:=fun z hz=>by
    rcases gI hz with h|h
    ·exact hb z h
    ·rw[h];decide
   show iO _ _ _ _ (n5 H9 p (.lst ((ns.map V.int).set y9 (.int 20))))
   generalize n5 H9 p (.lst ((ns.map V.int).set y9 (.int 20)))=HA at sA hpA
   generalize ns.set y9 20=nsA at hpA hnA hbA
   refine ⟨_,rfl,p,_,rfl,.inl (.of hpA),(by rw[P6];exact List.all_eq_true.mpr fun _ _=>rfl),_,rfl,?_⟩
   rw[oK fun x hx=>(hbA x hx).1]
   by_cases hz:0<nsA.sum
   ·rw[decide_eq_true hz]
    refine W3 ⟨_,rfl,p,_,rfl,.inl ⟨.of hpA,fun t ht=>?_⟩⟩
    exact q t _ nsA (sA.new ht) f7 ⟨hnA,hbA,hz⟩
   ·rw[decide_eq_false hz]
    obtain ⟨_,xz,hxz,okz⟩:=id sA
    refine V0 ⟨_,rfl,l,3,xz,b,rfl,hxz,okz,by decide,by decide,fun v x5 hv ok5=>?_⟩
    have s5:=sA.go ok5
    have k5:Kp l HA (n5 HA l (.lst [.int x5,.bl b])):=Kp.at
    generalize n5 HA l (.lst [.int x5,.bl b])=H4 at s5 k5
    obtain ⟨_,x6,hx6,ok6⟩:=id s5
    refine ⟨_,_,rfl,rfl,_,rfl,_,rfl,_,rfl,l,n,x6,b,rfl,hx6,ok6,by lia,by lia,fun y x7 hy ok7=>?_⟩
    have s6:=s5.go ok7
    have k6:Kp l H4 (n5 H4 l (.lst [.int x7,.bl b])):=Kp.at
    generalize n5 H4 l (.lst [.int x7,.bl b])=H5 at s6 k6
    have hp5:H5 p=some (.lst (nsA.map V.int)):=k6 _ _ hpl (k5 _ _ hpl hpA)
    have hy':y<nsA.length:=by lia
    refine ⟨p,_,_,y,rfl,rfl,hp5,uv (by rw[d6];exact hy'),?_⟩
    refine ⟨_,rfl,p,_,rfl,.inl ⟨.of f7,fun t ht=>?_⟩⟩
    have s7:=s6.lput (o:=.lst ((nsA.map V.int).set y (.int (1+v)))) hpl hpn
    refine q t _ (nsA.set y (1+v)) (s7.new ht) (by rw[f7,yT]) ⟨by rw[bV];exact hnA,fun z hz=>?_,pB (fun z hz=>(hbA z hz).1) (by lia) hy'⟩
    rcases gI hz with h|h
    ·exact hbA z h
    ·rw[h];lia
  ·show iO _ _ _ _ H8
   refine ⟨_,rfl,p,_,rfl,.inl (.of hp8),(by rw[P6];exact List.all_eq_true.mpr fun _ _=>rfl),_,rfl,?_⟩
   rw[oK fun x hx=>(hb x hx).1]
   by_cases hz:0<ns.sum
   ·rw[decide_eq_true hz]
    refine W3 ⟨_,rfl,p,_,rfl,.inl ⟨.of hp8,fun t ht=>?_⟩⟩
    exact q t _ ns (s8.new ht) f7 ⟨hn,hb,hz⟩
   ·rw[decide_eq_false hz]
    obtain ⟨_,xz,hxz,okz⟩:=id s8
    refine V0 ⟨_,rfl,l,3,xz,b,rfl,hxz,okz,by decide,by decide,fun v x5 hv ok5=>?_⟩
    have s5:=s8.go ok5
    have k5:Kp l H8 (n5 H8 l (.lst [.int x5,.bl b])):=Kp.at
    generalize n5 H8 l (.lst [.int x5,.bl b])=H4 at s5 k5
    obtain ⟨_,x6,hx6,ok6⟩:=id s5
    refine ⟨_,_,rfl,rfl,_,rfl,_,rfl,_,rfl,l,n,x6,b,rfl,hx6,ok6,by lia,by lia,fun y x7 hy ok7=>?_⟩
    have s6:=s5.go ok7
    have k6:Kp l H4 (n5 H4 l (.lst [.int x7,.bl b])):=Kp.at
    generalize n5 H4 l (.lst [.int x7,.bl b])=H5 at s6 k6
    have hp5:H5 p=some (.lst (ns.map V.int)):=k6 _ _ hpl (k5 _ _ hpl hp8)
    have hy':y<ns.length:=by lia
    refine ⟨p,_,_,y,rfl,rfl,hp5,uv (by rw[d6];exact hy'),?_⟩
    refine ⟨_,rfl,p,_,rfl,.inl ⟨.of f7,fun t ht=>?_⟩⟩
    have s7:=s6.lput (o:=.lst ((ns.map V.int).set y (.int (1+v)))) hpl hpn
    refine q t _ (ns.set y (1+v)) (s7.new ht) (by rw[f7,yT]) ⟨by rw[bV];exact hn,fun z hz=>?_,pB (fun z hz=>(hb z hz).1) (by lia) hy'⟩
    rcases gI hz with h|h
    ·exact hb z h
    ·rw[h];lia
end
theorem DS {y:Nat} (h:y<=xs.length):kJ xs (some (y:Int)) none=xs.drop y:=by
 unfold kJ
 have e1:HT.cZ xs.length 0 (some (y:Int))=y:=by rw[HT.zj];lia
 rw[e1,HT.vH]
 exact K1 (by rw[M0];lia)
theorem DQ {y:Nat} (h:y<=xs.length):kJ xs none (some (y:Int))=xs.take y:=by
 unfold kJ
 have e1:HT.cZ xs.length xs.length (some (y:Int))=y:=by rw[HT.zj];lia
 rw[e1,HT.vH,R5,oS]
section
variable {P:j6}{w:r9}{K:m9}{mg:Str->Option b9}{base:Heap}{f:Addr}{fd:D6}
noncomputable def pe:Sp:=fun vs H Q _=>∃(l:Addr) (n:Nat) (x:Int) (b:Bool),vs=[.ref l,.int n]/\H l=some (.lst [.int x,.bl b])/\lT x b/\1<=n/\n<=4 /\
 ∀(v:V) (H':Hp) (rs:List (List Int)),ak l b H H'->Dt l H' (DR rs) v->Mt.lU n 5 rs->Q v H'
noncomputable abbrev tS:Stmt:=fE 47
theorem iZ:D9 ["_law_state_here","_law_kinds","_law_way","_law_more","_law_row","_law_far"] ["_law_state_here","_law_kinds"] (A1 tS):=⟨rfl,rfl,rfl,by decide +kernel,rfl,by decide +kernel,by decide +kernel⟩
theorem Dk (F:bT K "_law_rule" "_law_rule" tS f fd) (B:Bt mg) (c1:V4 P w K mg base 1 "_law_take" ["_law_state_here","_law_many"] ba):N0 P w K mg base dI 2 f fd ["_law_state_here","_law_kinds"] pe:=by
 refine F.ok iZ (fun vs H Q E h=>?_) (fun cdv A outer s H vs Q E hr h=>?_)
 ·obtain ⟨l,n,x,b,rfl,_⟩:=h
  rfl
 obtain ⟨l,n,x,b,rfl,hl,hst,n1,n4,q⟩:=h
 refine ⟨_,m7 (F9 (i:=2) iZ.nd rfl (A2 rfl) (B9 c1 hr rfl (b7 (pv 0) (b7 j0 d8))))
  (m7 (F9 (i:=3) iZ.nd rfl (gH rfl) (B9 c1 hr rfl (b7 (pv 0) (b7 j0 d8))))
  (m7 (V6 (R7 jj (pv 2) j0 (O8 _)) (t6 (D7 (G7 L5 rfl B.tuple J6 (b7 (N4 (N:=["_law_kind","_law_kinds","_law_more"]) (ix:=[none,some 1,some 3]) (ifs:=[]) (tc:=S1) rfl (P2 rfl B.range (b7 (pv 1) d8)) (fun s H ex=>aj (i:=0) (by decide +kernel) rfl (gH rfl) (.inl rfl)) (fun s H ex=>M4) (fun s H ex=>(G7 (GD (K:=K) rfl) rfl B.tuple J6 (b7 (N4 (N:=["_law_one","_law_more","_law_kind"]) (ix:=[none,some 2,some 0]) (ifs:=[]) (tc:=S1) rfl (P2 rfl B.range (b7 (pv 1) d8)) (fun s H ex=>aj (i:=0) (by decide +kernel) rfl (A2 rfl) (.inr rfl)) (fun s H ex=>M4) (fun s H ex=>D5 kE (pv 1) (G7 eU rfl B.int jX (b7 (df jj (pv 0) (pv 2) (O8 _)) d8))) rfl (by decide +kernel) (by rfl) (by rfl) (fun _=>rfl)) d8))) rfl (by decide +kernel) (by rfl) (by rfl) (fun _=>rfl)) d8)))) K9)
  (m7 (F9 (i:=4) iZ.nd rfl (gH rfl) (G7 L5 rfl B.tuple J6 (b7 (N4 (N:=["_law_kind","_law_state_here"]) (ix:=[none,some 0]) (ifs:=[]) (tc:=S1) rfl (P2 rfl B.range (b7 (pv 1) d8)) (fun s H ex=>aj (i:=0) (by decide +kernel) rfl (A2 rfl) (.inr rfl)) (fun s H ex=>M4) (fun s H ex=>B9 c1 hr rfl (b7 (pv 1) (b7 (G4 (ixLK (K:=K) rfl) (N8 (b7 j0 (b7 j0 (b7 j0 d8)))) (B9 c1 hr rfl (b7 (pv 1) (b7 j0 d8))) (fun _ _=>rfl)) d8))) rfl (by decide +kernel) (by rfl) (by rfl) (fun _=>rfl)) d8)))
  (m7 (V6 (R7 jj (pv 2) j0 (O8 _)) (t6 (D7 (D5 Ka (D3 (b7 (pv 4) d8)) (pv 1)))) K9)
  (m7 (V6 (R7 jj (pv 2) j0 (O8 _)) (m7 (jg (N:=["_law_kind","_law_state_here","_law_kinds"]) (ix:=[none,some 0,some 1]) (ifs:=[]) (tc:=S1) (i:=5) rfl iZ.nd rfl rfl (P2 rfl B.range (b7 (pv 1) d8)) (fun s H ex=>aj (i:=0) (by decide +kernel) rfl (A2 rfl) (.inr rfl)) (fun s H ex=>M4) (fun s H ex=>B9 c1 hr rfl (b7 (pv 1) (b7 (pv 2) d8))) rfl (by decide +kernel) (by rfl) (by rfl) (fun _=>rfl) (by rfl)) (t6 (D7 (G7 L5 rfl B.tuple J6 (b7 (N4 (N:=["_law_place","_law_row"]) (ix:=[none,some 4]) (ifs:=[]) (tc:=S1) rfl (dc (pv 5)) (fun s H ex=>aj (i:=0) (by decide +kernel) rfl (A2 rfl) (.inr rfl)) (fun s H ex=>M4) (fun s H ex=>D5 jM (Q5 tG (pv 1) (V9 (pv 0)) W0) (Q5 tG (pv 1) W0 (V9 (pv 0)))) rfl (by decide +kernel) (by rfl) (by rfl) (fun _=>rfl)) d8))))) K9)
  (m7 (V6 (R7 jj (pv 2) j0 (O8 _)) (t6 (D7 (G7 L5 rfl B.tuple J6 (b7 (N4 (N:=["_law_kind","_law_kinds","_law_more"]) (ix:=[none,some 1,some 3]) (ifs:=[]) (tc:=S1) rfl (P2 rfl B.range (b7 (pv 1) d8)) (fun s H ex=>aj (i:=0) (by decide +kernel) rfl (gH rfl) (.inl rfl)) (fun s H ex=>M4) (fun s H ex=>(G7 (GD (K:=K) rfl) rfl B.tuple J6 (b7 (N4 (N:=["_law_one","_law_kind","_law_kinds","_law_more"]) (ix:=[none,some 0,some 1,some 2]) (ifs:=[]) (tc:=S1) rfl (P2 rfl B.range (b7 (pv 1) d8)) (fun s H ex=>aj (i:=0) (by decide +kernel) rfl (A2 rfl) (.inr rfl)) (fun s H ex=>M4) (fun s H ex=>D5 kE (pv 3) (G7 eU rfl B.int jX (b7 (df jj (pv 0) (D5 dS (D5 Z5 (pv 1) j0) (pv 2)) (O8 _)) d8))) rfl (by decide +kernel) (by rfl) (by rfl) (fun _=>rfl)) d8))) rfl (by decide +kernel) (by rfl) (by rfl) (fun _=>rfl)) d8)))) K9)
  (t6 (D7 (G7 L5 rfl B.tuple J6 (b7 (N4 (N:=["_law_kind","_law_kinds","_law_state_here"]) (ix:=[none,some 1,some 0]) (ifs:=[]) (tc:=S1) rfl (P2 rfl B.range (b7 (pv 1) d8)) (fun s H ex=>aj (i:=0) (by decide +kernel) rfl (A2 rfl) (.inr rfl)) (fun s H ex=>M4) (fun s H ex=>(G7 (GD (K:=K) rfl) rfl B.tuple J6 (b7 (N4 (N:=["_law_one","_law_state_here"]) (ix:=[none,some 2]) (ifs:=[]) (tc:=S1) rfl (P2 rfl B.range (b7 (pv 1) d8)) (fun s H ex=>aj (i:=0) (by decide +kernel) rfl (A2 rfl) (.inr rfl)) (fun s H ex=>M4) (fun s H ex=>B9 c1 hr rfl (b7 (pv 1) (b7 j0 d8))) rfl (by decide +kernel) (by rfl) (by rfl) (fun _=>rfl)) d8))) rfl (by decide +kernel) (by rfl) (by rfl) (fun _=>rfl)) d8)))))))))),?_⟩
 have lo62:-(2 ^ 62)<=((n:Nat):Int):=by lia
 have hi62:((n:Nat):Int)<2 ^ 62:=by lia
 have s0:ak l b H H:=ak.start hl hst
 have fin:∀(rs:List (List Int)) (ys:List V) (H3:Hp) (p ra:Addr),ak l b H H3->rs.length=n->(∀r∈rs,Mt.DX n 5 r)->S3 l H3 (rs.map DI) ys->H3 p=none->n5 H3 p (.lst ys) ra=none->Q (.ref ra) (n5 (n5 H3 p (.lst ys)) ra (.tup ys)):=fun rs ys H3 p ra s3 h1 h2 h3 hp hra=>by
  have s4:ak l b H (n5 H3 p (.lst ys)):=s3.new hp
  exact q _ _ rs (s4.new hra) (Dt.tup (s4.ne hra).symm f7 (h3.kp ((Kp.new hp).trans (Kp.new hra)))) ⟨h1,h2⟩
 refine ⟨_,rfl,l,5,x,b,rfl,hl,hst,by decide,by decide,fun wy x1 hwy ok1=>?_⟩
 have s1:=s0.go ok1
 show iO _ _ _ _ (n5 H l (.lst [.int x1,.bl b]))
 generalize n5 H l (.lst [.int x1,.bl b])=H1 at s1
 obtain ⟨_,x2,hx2,Bx⟩:=id s1
 refine ⟨_,rfl,l,6,x2,b,rfl,hx2,Bx,by decide,by decide,fun mo x3 hmo ok3=>?_⟩
 have s2:=s1.go ok3
 show iO _ _ _ _ (n5 H1 l (.lst [.int x3,.bl b]))
 generalize n5 H1 l (.lst [.int x3,.bl b])=H2 at s2
 refine ⟨_,rfl,rfl,_,rfl,yA (fun _=>?_) (fun _=>?_)⟩
 ·refine ⟨_,rfl,(n:Int),rfl,lo62,hi62,?_⟩
  refine Y8 (lo:=0) (n:=n) (sz (by lia)) (fun i ys H3=>ak l b H H3/\∃rs:List (List Int),rs.length=i/\(∀r∈rs,Mt.DX n 5 r)/\S3 l H3 (rs.map DI) ys)
   ⟨s2,[],rfl,by simp,S3.nil _ _⟩ (fun i ys H3 h=>?_) rfl (fun i ys H3 hi h=>?_) (fun ys H3 h=>?_)
  ·obtain ⟨_,rs,hr1,_,hd⟩:=h
   rw[<- hd.len,d6];exact hr1
  ·obtain ⟨s3,rs,hr1,hr2,hd⟩:=h
   refine ⟨_,rfl,(n:Int),rfl,lo62,hi62,?_⟩
   refine Y8 (lo:=0) (n:=n) (sz (by lia)) (fun j zs H4=>ak l b H H4/\Kp l H3 H4/\∃r:List Int,zs=r.map V.int/\r.length=j/\∀z∈r,0<=z/\z<=5)
    ⟨s3,Kp.refl _ _,[],rfl,rfl,by simp⟩ (fun j zs H4 h=>?_) rfl (fun j zs H4 hj h=>?_) (fun zs H4 h=>?_)
   ·obtain ⟨_,_,r,rfl,hr,_⟩:=h
    rw[d6];exact hr
   ·obtain ⟨s4,k4,r,rfl,hr,hz⟩:=h
    refine ⟨_,rfl,_,rfl,_,rfl,rfl,.inr ⟨_,rfl,_,_,rfl,rfl,.inl ⟨by lia,by lia⟩,?_⟩⟩
    refine ⟨s4,k4,r++[_],by rw[A3];rfl,by rw[v9,hr];rfl,fun z hz'=>?_⟩
    rcases List.mem_append.mp hz' with h|h
    ·exact hz z h
    ·rw[List.mem_singleton.mp h]
     split <;> lia
   ·obtain ⟨s4,k4,r,rfl,hr,hz⟩:=h
    intro p hp
    have s5:ak l b H (n5 H4 p (.lst (r.map V.int))):=s4.new hp
    refine ⟨p,_,rfl,.inl ⟨.of f7,fun t ht=>?_⟩⟩
    have kk:Kp l H3 (n5 (n5 H4 p (.lst (r.map V.int))) t (.tup (r.map V.int))):=(k4.trans (Kp.new hp)).trans (Kp.new ht)
    refine ⟨s5.new ht,rs++[r],by rw[v9,hr1];rfl,fun r' hr'=>?_,?_⟩
    ·rcases List.mem_append.mp hr' with h|h
     ·exact hr2 r' h
     ·rw[List.mem_singleton.mp h];exact ⟨hr,hz⟩
    ·rw[A3]
     exact (hd.kp kk).append (S3.cons (Dt.mkI (s5.ne ht).symm f7) (S3.nil _ _))
  ·obtain ⟨s3,rs,hr1,hr2,hd⟩:=h
   exact fun p hp=>⟨p,_,rfl,.inl ⟨.of f7,fun ra hra=>fin rs ys H3 p ra s3 hr1 hr2 hd hp hra⟩⟩
 refine ⟨_,rfl,(n:Int),rfl,lo62,hi62,?_⟩
 refine Y8 (lo:=0) (n:=n) (sz (by lia)) (fun i ys H3=>ak l b H H3/\∃ns:List Int,ys=ns.map V.int/\ns.length=i/\∀z∈ns,0<=z/\z<=5)
  ⟨s2,[],rfl,rfl,by simp⟩ (fun i ys H3 h=>?_) rfl (fun i ys H3 hi h=>?_) (fun ys H3 h=>?_)
 ·obtain ⟨_,ns,rfl,hn,_⟩:=h
  rw[d6];exact hn
 ·obtain ⟨s3,ns,rfl,hn,hb⟩:=h
  refine ⟨_,rfl,(by show 3<=i6;decide),fun p5 hp5=>?_⟩
  have s5:ak l b H (n5 H3 p5 (.lst [.int 2,.int 3,.int 6])):=s3.new hp5
  have np5:p5≠l:=(s3.ne hp5).symm
  obtain ⟨_,x5,hx5,ok5⟩:=id s5
  refine ⟨_,rfl,l,3,x5,b,rfl,hx5,ok5,by decide,by decide,fun y x6 hy ok6=>?_⟩
  have s6:=s5.go ok6
  have k6:Kp l (n5 H3 p5 (.lst [.int 2,.int 3,.int 6])) (n5 (n5 H3 p5 (.lst [.int 2,.int 3,.int 6])) l (.lst [.int x6,.bl b])):=Kp.at
  have hp6:=k6 _ _ np5 f7
  obtain ⟨m,hm,m1,m2⟩:∃m:Int,([.int 2,.int 3,.int 6]:List V)[y]?=some (.int m)/\1<=m/\m<=6:=by
   have hy':y<3:=by lia
   match y,hy' with
   | 0,_=>exact ⟨2,rfl,by decide,by decide⟩
   | 1,_=>exact ⟨3,rfl,by decide,by decide⟩
   | 2,_=>exact ⟨6,rfl,by decide,by decide⟩
  obtain ⟨_,x7,hx7,ok7⟩:=id s6
  refine ⟨p5,_,_,_,rfl,rfl,.of hp6,E3 hm,l,m,x7,b,rfl,hx7,ok7,m1,by lia,fun y2 x8 hy2 ok8=>?_⟩
  refine ⟨s6.go ok8,ns++[(y2:Int)],by rw[A3];rfl,by rw[v9,hn];rfl,fun z hz=>?_⟩
  rcases List.mem_append.mp hz with h|h
  ·exact hb z h
  ·rw[List.mem_singleton.mp h];lia
 obtain ⟨s3,ns,rfl,hn,hb⟩:=h
 intro p3 hp3
 refine ⟨p3,_,rfl,.inl ⟨.of f7,fun rw hrw=>?_⟩⟩
 have s4:ak l b H (n5 H3 p3 (.lst (ns.map V.int))):=s3.new hp3
 have s5:=s4.new (o:=.tup (ns.map V.int)) hrw
 have hr5:n5 (n5 H3 p3 (.lst (ns.map V.int))) rw (.tup (ns.map V.int)) rw=some (.tup (ns.map V.int)):=f7
 show iO _ _ _ _ (n5 (n5 H3 p3 (.lst (ns.map V.int))) rw (.tup (ns.map V.int)))
 generalize n5 (n5 H3 p3 (.lst (ns.map V.int))) rw (.tup (ns.map V.int))=H5 at s5 hr5
 have nrw:rw≠l:=s5.neL hr5
 have hrow:Mt.DX n 5 ns:=⟨hn,hb⟩
 refine ⟨_,rfl,rfl,_,rfl,yA (fun _=>?_) (fun _=>?_)⟩
 ·refine ⟨_,rfl,(by show 1<=i6;decide),fun pa hpa=>⟨_,rfl,pa,.ref rw,n,rfl,rfl,f7,n1,n4,fun pb Hb gb hpb=>?_⟩⟩
  have g:=(i7.new (o:=.tup [.ref rw]) hpa).trans gb
  have s6:=s5.same g
  refine q _ _ (A7 n ns) s6 (Dt.tup (s6.neL hpb) hpb ?_) ⟨P0,fun r hr=>by rw[iA hr];exact hrow⟩
  rw[Ei]
  exact Ac (Dt.mkI nrw (g _ _ hr5)) n
 refine ⟨_,rfl,rfl,_,rfl,yA (fun _=>?_) (fun _=>?_)⟩
 ·refine ⟨_,rfl,(n:Int),rfl,lo62,hi62,?_⟩
  refine Y8 (lo:=0) (n:=n) (sz (by lia)) (fun i ys H6=>ak l b H H6/\Kp l H5 H6/\∃ks:List Nat,ys=ks.map (fun (k:Nat)=>V.int k)/\ks.length=i/\∀z∈ks,z<n)
   ⟨s5,Kp.refl _ _,[],rfl,rfl,by simp⟩ (fun i ys H6 h=>?_) rfl (fun i ys H6 hi h=>?_) (fun ys H6 h=>?_)
  ·obtain ⟨_,_,ks,rfl,hk,_⟩:=h
   rw[d6];exact hk
  ·obtain ⟨s6,k6,ks,rfl,hk,hlt⟩:=h
   obtain ⟨_,x6,hx6,ok6⟩:=id s6
   refine ⟨_,rfl,_,rfl,l,n,x6,b,rfl,hx6,ok6,by lia,by lia,fun y x7 hy ok7=>?_⟩
   refine ⟨s6.go ok7,k6.trans Kp.at,ks++[y],by rw[A3];rfl,by rw[v9,hk];rfl,fun z hz=>?_⟩
   rcases List.mem_append.mp hz with h|h
   ·exact hlt z h
   ·rw[List.mem_singleton.mp h];lia
  obtain ⟨s6,k6,ks,rfl,hk,hlt⟩:=h
  intro pf hpf
  have s7:=s6.new (o:=.lst (ks.map (fun (k:Nat)=>V.int k))) hpf
  have npf:pf≠l:=(s6.ne hpf).symm
  have hf7:n5 H6 pf (.lst (ks.map (fun (k:Nat)=>V.int k))) pf=some (.lst (ks.map (fun (k:Nat)=>V.int k))):=f7
  have hr7:n5 H6 pf (.lst (ks.map (fun (k:Nat)=>V.int k))) rw=some (.tup (ns.map V.int)):=i7.new hpf _ _ (k6 _ _ nrw hr5)
  generalize n5 H6 pf (.lst (ks.map (fun (k:Nat)=>V.int k)))=H7 at s7 hf7 hr7
  refine ⟨_,rfl,pf,rfl,⟨_,.of hf7⟩,qp (K:=K) (a:=pf) (xs:=ks.map (fun (k:Nat)=>V.int k)) (by rw[d6,hk];exact sz (by lia)) (fun i ys H8=>i7 H7 H8/\i<=n/\∃rs:List (List Int),rs.length=i/\(∀r∈rs,Mt.DX n 5 r)/\S3 l H8 (rs.map DI) ys)
   ⟨i7.refl _,u9 _,[],rfl,by simp,S3.nil _ _⟩ (fun i ys H8 h=>?_) (fun i ys H8 _ h=>.of (h.1 _ _ hf7)) rfl (fun i ys H8 v hv h=>?_) (fun ys H8 h=>?_)⟩
  ·obtain ⟨_,_,rs,hr1,_,hd⟩:=h
   rw[<- hd.len,d6];exact hr1
  ·obtain ⟨g8,hin,rs,hr1,hr2,hd⟩:=h
   rw[A4] at hv
   obtain ⟨k,hk',ev⟩:=Option.map_eq_some_iff.mp hv
   subst ev
   have hik:=(List.getElem?_eq_some_iff.mp hk').1
   have hkn:=hlt k (C5 hk')
   have hr8:=g8 _ _ hr7
   have hkl:k<=(ns.map V.int).length:=by rw[d6];lia
   have ea:kJ (ns.map V.int) (some (k:Int)) none=(ns.drop k).map V.int:=by rw[DS hkl,List.map_drop]
   have eb:kJ (ns.map V.int) none (some (k:Int))=(ns.take k).map V.int:=by rw[DQ hkl,List.map_take]
   refine ⟨_,rfl,_,rfl,_,rfl,rw,_,rfl,hr8,fun p1 H9 g9 hp1=>⟨_,rfl,_,rfl,_,rfl,rw,_,rfl,g9 _ _ hr8,fun p2 HA gA hp2=>?_⟩⟩
   rw[ea] at hp1
   rw[eb] at hp2
   refine ⟨p1,p2,_,_,rfl,rfl,gA _ _ hp1,hp2,(by rw[d6,d6,M0,y7];lia),fun p HB gB hpB=>?_⟩
   have gAll:=(g9.trans gA).trans gB
   have gTot:=g8.trans gAll
   have sB:=s7.same gTot
   refine ⟨gTot,by lia,rs++[ns.drop k++ns.take k],by rw[v9,hr1];rfl,fun r' hr'=>?_,?_⟩
   ·rcases List.mem_append.mp hr' with h|h
    ·exact hr2 r' h
    ·rw[List.mem_singleton.mp h]
     refine ⟨by rw[v9,M0,y7];lia,fun z hz=>?_⟩
     have hz':z∈ns:=by
      rcases List.mem_append.mp hz with h|h
      ·exact M6 h
      ·exact C9 h
     exact hb z hz'
   ·rw[A3]
    exact (hd.kp (gAll.kp l)).append (S3.cons (Dt.mkI (sB.neL hpB) (by rw[hpB,A3])) (S3.nil _ _))
  ·obtain ⟨g8,_,rs,hr1,hr2,hd⟩:=h
   rw[d6,hk] at hr1
   exact fun p hp=>⟨p,_,rfl,.inl ⟨.of f7,fun ra hra=>fin rs ys H8 p ra (s7.same g8) hr1 hr2 hd hp hra⟩⟩
 refine ⟨_,rfl,rfl,_,rfl,yA (fun _=>?_) (fun _=>?_)⟩
 ·refine ⟨_,rfl,(n:Int),rfl,lo62,hi62,?_⟩
  refine Y8 (lo:=0) (n:=n) (sz (by lia)) (fun i ys H3=>ak l b H H3/\∃rs:List (List Int),rs.length=i/\(∀r∈rs,Mt.DX n 5 r)/\S3 l H3 (rs.map DI) ys)
   ⟨s5,[],rfl,by simp,S3.nil _ _⟩ (fun i ys H3 h=>?_) rfl (fun i ys H3 hi h=>?_) (fun ys H3 h=>?_)
  ·obtain ⟨_,rs,hr1,_,hd⟩:=h
   rw[<- hd.len,d6];exact hr1
  ·obtain ⟨s3,rs,hr1,hr2,hd⟩:=h
   refine ⟨_,rfl,(n:Int),rfl,lo62,hi62,?_⟩
   refine Y8 (lo:=0) (n:=n) (sz (by lia)) (fun j zs H4=>ak l b H H4/\Kp l H3 H4/\∃r:List Int,zs=r.map V.int/\r.length=j/\∀z∈r,0<=z/\z<=5)
    ⟨s3,Kp.refl _ _,[],rfl,rfl,by simp⟩ (fun j zs H4 h=>?_) rfl (fun j zs H4 hj h=>?_) (fun zs H4 h=>?_)
   ·obtain ⟨_,_,r,rfl,hr,_⟩:=h
    rw[d6];exact hr
   ·obtain ⟨s4,k4,r,rfl,hr,hz⟩:=h
    refine ⟨_,rfl,_,rfl,_,rfl,_,_,rfl,rfl,_,rfl,_,_,rfl,rfl,(by lia),rfl,.inr ⟨_,rfl,_,_,rfl,rfl,.inl ⟨by lia,by lia⟩,?_⟩⟩
    refine ⟨s4,k4,r++[_],by rw[A3];rfl,by rw[v9,hr];rfl,fun z hz'=>?_⟩
    rcases List.mem_append.mp hz' with h|h
    ·exact hz z h
    ·rw[List.mem_singleton.mp h]
     split <;> lia
   ·obtain ⟨s4,k4,r,rfl,hr,hz⟩:=h
    intro p hp
    have s5:ak l b H (n5 H4 p (.lst (r.map V.int))):=s4.new hp
    refine ⟨p,_,rfl,.inl ⟨.of f7,fun t ht=>?_⟩⟩
    have kk:Kp l H3 (n5 (n5 H4 p (.lst (r.map V.int))) t (.tup (r.map V.int))):=(k4.trans (Kp.new hp)).trans (Kp.new ht)
    refine ⟨s5.new ht,rs++[r],by rw[v9,hr1];rfl,fun r' hr'=>?_,?_⟩
    ·rcases List.mem_append.mp hr' with h|h
     ·exact hr2 r' h
     ·rw[List.mem_singleton.mp h];exact ⟨hr,hz⟩
    ·rw[A3]
     exact (hd.kp kk).append (S3.cons (Dt.mkI (s5.ne ht).symm f7) (S3.nil _ _))
  ·obtain ⟨s3,rs,hr1,hr2,hd⟩:=h
   exact fun p hp=>⟨p,_,rfl,.inl ⟨.of f7,fun ra hra=>fin rs ys H3 p ra s3 hr1 hr2 hd hp hra⟩⟩
 refine ⟨_,rfl,(n:Int),rfl,lo62,hi62,?_⟩
 refine Y8 (lo:=0) (n:=n) (sz (by lia)) (fun i ys H3=>ak l b H H3/\∃rs:List (List Int),rs.length=i/\(∀r∈rs,Mt.DX n 5 r)/\S3 l H3 (rs.map DI) ys)
  ⟨s5,[],rfl,by simp,S3.nil _ _⟩ (fun i ys H3 h=>?_) rfl (fun i ys H3 hi h=>?_) (fun ys H3 h=>?_)
 ·obtain ⟨_,rs,hr1,_,hd⟩:=h
  rw[<- hd.len,d6];exact hr1
 ·obtain ⟨s3,rs,hr1,hr2,hd⟩:=h
  refine ⟨_,rfl,(n:Int),rfl,lo62,hi62,?_⟩
  refine Y8 (lo:=0) (n:=n) (sz (by lia)) (fun j zs H4=>ak l b H H4/\Kp l H3 H4/\∃r:List Int,zs=r.map V.int/\r.length=j/\∀z∈r,0<=z/\z<=5)
   ⟨s3,Kp.refl _ _,[],rfl,rfl,by simp⟩ (fun j zs H4 h=>?_) rfl (fun j zs H4 hj h=>?_) (fun zs H4 h=>?_)
  ·obtain ⟨_,_,r,rfl,hr,_⟩:=h
   rw[d6];exact hr
  ·obtain ⟨s4,k4,r,rfl,hr,hz⟩:=h
   obtain ⟨_,x5,hx5,ok5⟩:=id s4
   refine ⟨_,rfl,l,6,x5,b,rfl,hx5,ok5,by decide,by decide,fun y x6 hy ok6=>?_⟩
   refine ⟨s4.go ok6,k4.trans Kp.at,r++[(y:Int)],by rw[A3];rfl,by rw[v9,hr];rfl,fun z hz'=>?_⟩
   rcases List.mem_append.mp hz' with h|h
   ·exact hz z h
   ·rw[List.mem_singleton.mp h];lia
  ·obtain ⟨s4,k4,r,rfl,hr,hz⟩:=h
   intro p hp
   have s5:ak l b H (n5 H4 p (.lst (r.map V.int))):=s4.new hp
   refine ⟨p,_,rfl,.inl ⟨.of f7,fun t ht=>?_⟩⟩
   have kk:Kp l H3 (n5 (n5 H4 p (.lst (r.map V.int))) t (.tup (r.map V.int))):=(k4.trans (Kp.new hp)).trans (Kp.new ht)
   refine ⟨s5.new ht,rs++[r],by rw[v9,hr1];rfl,fun r' hr'=>?_,?_⟩
   ·rcases List.mem_append.mp hr' with h|h
    ·exact hr2 r' h
    ·rw[List.mem_singleton.mp h];exact ⟨hr,hz⟩
   ·rw[A3]
    exact (hd.kp kk).append (S3.cons (Dt.mkI (s5.ne ht).symm f7) (S3.nil _ _))
 ·obtain ⟨s3,rs,hr1,hr2,hd⟩:=h
  exact fun p hp=>⟨p,_,rfl,.inl ⟨.of f7,fun ra hra=>fin rs ys H3 p ra s3 hr1 hr2 hd hp hra⟩⟩
end
noncomputable def Bx (d:B0):Prop:=bN d/\∀ds,d=.tuple ds->∀r∈ds,bN r
noncomputable def Da (l:Addr) (H:Hp) (v:V):Prop:=∃d,Dt l H d v
noncomputable def Sh (l:Addr) (H:Hp) (v:V):Prop:=∃d,Dt l H d v/\bN d
noncomputable def Tg (l:Addr) (H:Hp) (v:V):Prop:=∃d,Dt l H d v/\Bx d
theorem Da.kp {l:Addr}{H H':Hp}{v:V} (h:Da l H v) (k:Kp l H H'):Da l H' v:=let ⟨d,e⟩:=h;⟨d,e.kp k⟩
theorem Sh.kp {l:Addr}{H H':Hp}{v:V} (h:Sh l H v) (k:Kp l H H'):Sh l H' v:=let ⟨d,e,s⟩:=h;⟨d,e.kp k,s⟩
theorem Tg.kp {l:Addr}{H H':Hp}{v:V} (h:Tg l H v) (k:Kp l H H'):Tg l H' v:=let ⟨d,e,s⟩:=h;⟨d,e.kp k,s⟩
theorem Sh.da (h:Sh l H v):Da l H v:=let ⟨d,e,_⟩:=h;⟨d,e⟩
theorem Tg.sh (h:Tg l H v):Sh l H v:=let ⟨d,e,s⟩:=h;⟨d,e,s.1⟩
theorem jA (h:∀ds,d≠.tuple ds):Bx d:=⟨fun ds e=>absurd e (h ds),fun ds e=>absurd e (h ds)⟩
theorem Tg.int (l:Addr) (H:Hp) (i:Int):Tg l H (.int i):=⟨_,Dt.int l H i,jA fun ds e=>by cases e⟩
theorem Tg.bl (l:Addr) (H:Hp) (b:Bool):Tg l H (.bl b):=⟨_,Dt.bl l H b,jA fun ds e=>by cases e⟩
theorem Tg.non (l:Addr) (H:Hp):Tg l H .non:=⟨_,Dt.non l H,jA fun ds e=>by cases e⟩
theorem Tg.str (l:Addr) (H:Hp) (x:Str):Tg l H (.str x):=⟨_,Dt.str l H x,jA fun ds e=>by cases e⟩
theorem yG {l:Addr}{H:Hp}:∀{xs:List V},(∀x∈xs,Da l H x)->∃ds,S3 l H ds xs
 | [],_=>⟨[],S3.nil _ _⟩
 | x::xs,h=>by
  obtain ⟨d,hd⟩:=h x j8
  obtain ⟨ds,hds⟩:=yG (xs:=xs) fun y hy=>h y (j9 _ hy)
  exact ⟨d::ds,S3.cons hd hds⟩
theorem DN {l:Addr}{H:Hp}:∀{xs:List V},(∀x∈xs,Sh l H x)->∃ds,S3 l H ds xs/\∀d∈ds,bN d
 | [],_=>⟨[],S3.nil _ _,by simp⟩
 | x::xs,h=>by
  obtain ⟨d,hd,hs⟩:=h x j8
  obtain ⟨ds,hds,hss⟩:=DN (xs:=xs) fun y hy=>h y (j9 _ hy)
  refine ⟨d::ds,S3.cons hd hds,fun e he=>?_⟩
  rcases List.mem_cons.mp he with z|z
  ·subst z;exact hs
  ·exact hss e z
theorem Sh.tup {l p:Addr}{H:Hp}{xs:List V} (hp:H p=some (.tup xs)) (ne:p≠l) (hl:xs.length<=1000) (h:∀x∈xs,Da l H x):Sh l H (.ref p):=by
 obtain ⟨ds,hds⟩:=yG h
 refine ⟨_,Dt.tup ne hp hds,fun es e=>?_⟩
 injection e with e
 rw[<- e,hds.len];exact hl
theorem Tg.tup {l p:Addr}{H:Hp}{xs:List V} (hp:H p=some (.tup xs)) (ne:p≠l) (hl:xs.length<=1000) (h:∀x∈xs,Sh l H x):Tg l H (.ref p):=by
 obtain ⟨ds,hds,hss⟩:=DN h
 refine ⟨_,Dt.tup ne hp hds,fun es e=>?_,fun es e r hr=>?_⟩
 ·injection e with e
  rw[<- e,hds.len];exact hl
 ·injection e with e
  rw[<- e] at hr;exact hss r hr
theorem Tg.lst {l p:Addr}{H:Hp}{xs:List V} (hp:H p=some (.lst xs)) (ne:p≠l) (h:∀x∈xs,Da l H x):Tg l H (.ref p):=by
 obtain ⟨ds,hds⟩:=yG h
 exact ⟨_,Dt.lst ne hp hds,jA fun ds e=>by cases e⟩
theorem Tg.dct {p:Addr}{ks:List (jt × V)} (hp:H p=some (.dK ks)) (ne:p≠l):Tg l H (.ref p):=
 ⟨.dict [],by unfold Dt;exact ⟨p,ks,rfl,ne,hp⟩,jA fun ds e=>by cases e⟩
noncomputable def cJ (Pr:Hp->V->Prop) (m:Nat) (te:TE) (σ:L2.St) (H:Hp):Prop:=∀Q:VK,(∀p H' xs,i7 H H'->H' p=some (.tup xs)->(∀x∈xs,Pr H' x)->xs.length<=m->Q (.ref p) H')->te σ H Q
section
variable {Pr:Hp->V->Prop}{m m1 m2:Nat}{ta tb te:TE}{σ:L2.St}{H:Hp}
theorem cJ.cat (h1:cJ Pr m1 ta σ H) (h2:∀H',i7 H H'->cJ Pr m2 tb σ H') (mo:∀H H' v,i7 H H'->Pr H v->Pr H' v) (hm:m1+m2<=1000):cJ Pr (m1+m2) (iP ai ta tb) σ H:=by
 intro Q q
 refine h1 _ fun p1 H1 xs g1 hp1 e1 l1=>h2 H1 g1 _ fun p2 H2 ys g2 hp2 e2 l2=>?_
 refine ⟨p1,p2,xs,ys,rfl,rfl,g2 _ _ hp1,hp2,by lia,fun p H' g hp=>q p H' _ ((g1.trans g2).trans g) hp (fun x hx=>?_) (by rw[v9];lia)⟩
 rcases List.mem_append.mp hx with z|z
 ·exact mo _ _ _ (g2.trans g) (e1 x z)
 ·exact mo _ _ _ g (e2 x z)
variable {xs:List V}
theorem Dx {lo hi:Option Int}{x:V} (h:x∈kJ xs lo hi):x∈xs:=M6 (C9 h)
variable {i:Nat}
theorem cJ.sl {a:Addr}{tl th:TO} (hi:σ[i]?=some (some (.ref a))) (ha:H a=some (.tup xs)) (he:∀x∈xs,Pr H x) (mo:∀H H' v,i7 H H'->Pr H v->Pr H' v) (hm:xs.length<=m)
  (hl:∃o,∀R:Option Int->Hp->Prop,R o H->tl σ H R) (hh:∃o,∀R:Option Int->Hp->Prop,R o H->th σ H R):cJ Pr m (uR ig (T6 i) tl th) σ H:=by
 intro Q q
 obtain ⟨o1,h1⟩:=hl
 obtain ⟨o2,h2⟩:=hh
 refine ⟨_,hi,h1 _ (h2 _ ⟨a,xs,rfl,ha,fun p H' g hp=>q p H' _ g hp (fun x hx=>mo _ _ _ g (he x (Dx hx))) (n6 (jo xs o1 o2) hm)⟩)⟩
theorem cJ.one {v:V} (hi:σ[i]?=some (some v)) (hv:Pr H v) (mo:∀H H' v,i7 H H'->Pr H v->Pr H' v):cJ Pr 1 (tq (bM (T6 i) mD)) σ H:=by
 intro Q q
 refine ⟨_,hi,by show 1<=i6;decide,fun p hp=>q p _ [v] (i7.new hp) f7 (fun x hx=>?_) (i8 _)⟩
 rw[List.mem_singleton.mp hx]
 exact mo _ _ _ (i7.new hp) hv
theorem cJ.var {a:Addr}(hi:σ[i]?=some (some (.ref a))) (ha:H a=some (.tup xs)) (he:∀x∈xs,Pr H x) (hm:xs.length<=m):cJ Pr m (T6 i) σ H :=
 fun Q q=>⟨_,hi,q a H xs (i7.refl H) ha he hm⟩
end
variable {σ:L2.St}
theorem dU :∃o,∀R:Option Int->Hp->Prop,R o H->W5 σ H R:=⟨none,fun R r=>r⟩
theorem fO {i:Nat}{k:Int} (h:σ[i]?=some (some (.int k))):∃o,∀R:Option Int->Hp->Prop,R o H->bZ (T6 i) σ H R:=⟨some k,fun R r=>⟨_,h,k,rfl,r⟩⟩
theorem jz {i:Nat}{k:Int} (h:σ[i]?=some (some (.int k))):∃o,∀R:Option Int->Hp->Prop,R o H->bZ (iP (vL fun i j=>.int (i+j)) (T6 i) (tC (.int 1))) σ H R:=⟨some (k+1),fun R r=>⟨_,h,k,1,rfl,rfl,k+1,rfl,r⟩⟩
section
variable {P:j6}{w:r9}{K:m9}{mg:Str->Option b9}{base:Heap}{f:Addr}{fd:D6}
theorem HJ:∀y:Nat,y<12->∃k:Nat,([.int 0,.int 0,.int 0,.int 0,.int 1,.int 2,.int 3,.int 4,.int 5,.int 6,.int 7,.int 8]:List V)[y]?=some (.int k)/\k<9
 | 0,_=>⟨0,rfl,by decide⟩
 | 1,_=>⟨0,rfl,by decide⟩
 | 2,_=>⟨0,rfl,by decide⟩
 | 3,_=>⟨0,rfl,by decide⟩
 | 4,_=>⟨1,rfl,by decide⟩
 | 5,_=>⟨2,rfl,by decide⟩
 | 6,_=>⟨3,rfl,by decide⟩
 | 7,_=>⟨4,rfl,by decide⟩
 | 8,_=>⟨5,rfl,by decide⟩
 | 9,_=>⟨6,rfl,by decide⟩
 | 10,_=>⟨7,rfl,by decide⟩
 | 11,_=>⟨8,rfl,by decide⟩
noncomputable def Cs:Sp:=fun vs H Q _=>∃(l ua:Addr) (x:Int) (b:Bool) (ns:List Int),vs=[.ref l,.ref ua]/\H l=some (.lst [.int x,.bl b])/\lT x b/\H ua=some (.tup (ns.map V.int))/\1<=ns.length/\ns.length<=4 /\
 ∀(v:V) (H':Hp),ak l b H H'->Tg l H' v->Q v H'
noncomputable abbrev Hv:Stmt:=fE 55
theorem vG:D9 ["_law_state_here","_law_urn","_law_at","_law_odd_here","_law_some"] ["_law_state_here","_law_urn"] (A1 Hv):=⟨rfl,rfl,rfl,by decide +kernel,rfl,by decide +kernel,by decide +kernel⟩
theorem KF (F:bT K "_law_bent_urn" "_law_bent_urn" Hv f fd) (B:Bt mg) (c1:V4 P w K mg base 1 "_law_take" ["_law_state_here","_law_many"] ba):N0 P w K mg base dI 2 f fd ["_law_state_here","_law_urn"] Cs:=by
 refine F.ok vG (fun vs H Q E h=>?_) (fun cdv A outer s H vs Q E hr h=>?_)
 ·obtain ⟨l,ua,x,b,ns,rfl,_⟩:=h
  rfl
 obtain ⟨l,ua,x,b,ns,rfl,hl,hst,hua,n1,n4,q⟩:=h
 refine ⟨_,m7 (F9 (i:=2) vG.nd rfl (A2 rfl) (B9 c1 hr rfl (b7 (pv 0) (b7 (u5 D8 rfl B.len C8 (b7 (pv 1) d8)) d8))))
  (m7 (F9 (i:=3) vG.nd rfl (A2 rfl) (@G4 _ _ _ _ _ _ _ R8 (@N8 _ _ _ _ (mP 7 rfl (b7 (D3 (b7 j0 d8)) (b7 (N8 (b7 j0 d8)) (b7 (D5 kD j0 j0) (b7 (D5 Z5 (G4 L7 (pv 1) (pv 2) (fun _ _=>rfl)) j0) d8)))))) (B9 c1 hr rfl (b7 (pv 0) (b7 j0 d8))) (fun _ _=>rfl)))
  (m7 (F9 (i:=4) vG.nd rfl (A2 rfl) (N8
   (b7 (D5 jM (D5 jM (Q5 tG (pv 1) W0 (V9 (pv 2))) (D3 (b7 (pv 3) d8))) (Q5 tG (pv 1) (V9 (D5 Z5 (pv 2) j0)) W0))
   (b7 (D5 jM (D5 jM (Q5 tG (pv 1) W0 (V9 (pv 2))) (D3 (b7 (pv 3) d8))) (Q5 tG (pv 1) (V9 (pv 2)) W0))
   (b7 (D5 jM (Q5 tG (pv 1) W0 (V9 (pv 2))) (Q5 tG (pv 1) (V9 (D5 Z5 (pv 2) j0)) W0))
   (b7 (G7 eF rfl B.list iy (b7 (pv 1) d8)) d8))))))
  (m7 (F9 (i:=4) vG.nd rfl (A2 rfl) (D5 kF (pv 4) (N8
   (b7 (D5 Ka (D3 (b7 j0 d8)) (u5 D8 rfl B.len C8 (b7 (pv 1) d8)))
   (b7 kC (b7 (D3 (b7 (pv 1) d8)) (b7 (D5 Fc (pv 1) j0) (b7 (pv 3) d8))))))))
  (t6 (D7 (uc rfl (pv 4) (B9 c1 hr rfl (b7 (pv 0) (b7 j0 d8))) (fun _ _=>rfl))))))),?_⟩
 have s0:ak l b H H:=ak.start hl hst
 have nua:ua≠l:=Ji hl hua
 refine ⟨_,rfl,_,rfl,ua,_,rfl,.inr (.of hua),l,_,x,b,rfl,hl,hst,?_,?_,fun at0 x1 hat ok1=>?_⟩
 ·rw[d6];lia
 ·rw[d6];lia
 rw[d6] at hat
 have s1:=s0.go ok1
 have k1:Kp l H (n5 H l (.lst [.int x1,.bl b])):=Kp.at
 show iO _ _ _ _ (n5 H l (.lst [.int x1,.bl b]))
 generalize n5 H l (.lst [.int x1,.bl b])=H1 at s1 k1
 have hua1:=k1 _ _ nua hua
 refine ⟨(by show 1<=i6;decide),fun pt hpt=>?_⟩
 have s2:ak l b H (n5 H1 pt (.tup [.int 1])):=s1.new hpt
 have g2:i7 H1 (n5 H1 pt (.tup [.int 1])):=i7.new hpt
 have hpt2:n5 H1 pt (.tup [.int 1]) pt=some (.tup [.int 1]):=f7
 dsimp only
 generalize n5 H1 pt (.tup [.int 1])=H2 at s2 g2 hpt2
 have npt:pt≠l:=s2.neL hpt2
 refine ⟨(by show 1<=i6;decide),fun pw hpw=>?_⟩
 have s2':ak l b H (n5 H2 pw (.lst [.int 1])):=s2.new hpw
 have g2':i7 H2 (n5 H2 pw (.lst [.int 1])):=i7.new hpw
 have hpw2:n5 H2 pw (.lst [.int 1]) pw=some (.lst [.int 1]):=f7
 have npw:pw≠l:=(s2.ne hpw).symm
 dsimp only
 generalize n5 H2 pw (.lst [.int 1])=H2' at s2' g2' hpw2
 have hua2:=(g2.trans g2') _ _ hua1
 refine ⟨_,_,rfl,rfl,⟨by decide,by decide,by decide⟩,_,rfl,_,rfl,ua,_,_,_,rfl,rfl,.of hua2,lS (by lia),_,_,rfl,rfl,(by show 11<=i6;decide),fun po hpo=>?_⟩
 have s3:=s2'.new (o:=.lst ([.int 21,.int (-1),.int 20,.int 0,.bl true,.non,.str "1"]++[.ref pt,.ref pw,.int (10 ^ 29),.int (ns.getD at0 0+1)])) hpo
 have npo:po≠l:=(s2'.ne hpo).symm
 have g3:i7 H2' (n5 H2' po (.lst ([.int 21,.int (-1),.int 20,.int 0,.bl true,.non,.str "1"]++[.ref pt,.ref pw,.int (10 ^ 29),.int (ns.getD at0 0+1)]))):=i7.new hpo
 have hpo3:n5 H2' po (.lst ([.int 21,.int (-1),.int 20,.int 0,.bl true,.non,.str "1"]++[.ref pt,.ref pw,.int (10 ^ 29),.int (ns.getD at0 0+1)])) po=some (.lst ([.int 21,.int (-1),.int 20,.int 0,.bl true,.non,.str "1"]++[.ref pt,.ref pw,.int (10 ^ 29),.int (ns.getD at0 0+1)])):=f7
 show GM ba _ _ (n5 H2' po (.lst ([.int 21,.int (-1),.int 20,.int 0,.bl true,.non,.str "1"]++[.ref pt,.ref pw,.int (10 ^ 29),.int (ns.getD at0 0+1)]))) _
 generalize hX:(([.int 21,.int (-1),.int 20,.int 0,.bl true,.non,.str "1"]++[.ref pt,.ref pw,.int (10 ^ 29),.int (ns.getD at0 0+1)]):List V)=X11 at s3 g3 hpo3
 have hX11:X11.length=11/\∀(H':Hp),H' pt=some (.tup [.int 1])->H' pw=some (.lst [.int 1])->∀y∈X11,Tg l H' y:=by
  rw[<- hX]
  refine ⟨rfl,fun H' h h' y hy=>?_⟩
  simp only[M3,aF,B6,C3,or_false] at hy
  rcases hy with e|e|e|e|e|e|e|e|e|e|e
  ·rw[e];exact Tg.int _ _ _
  ·rw[e];exact Tg.int _ _ _
  ·rw[e];exact Tg.int _ _ _
  ·rw[e];exact Tg.int _ _ _
  ·rw[e];exact Tg.bl _ _ _
  ·rw[e];exact Tg.non _ _
  ·rw[e];exact Tg.str _ _ _
  ·rw[e];exact Tg.tup h npt (by decide) fun z hz=>by rw[List.mem_singleton.mp hz];exact (Tg.int _ _ _).sh
  ·rw[e];exact Tg.lst h' npw fun z hz=>by rw[List.mem_singleton.mp hz];exact (Tg.int _ _ _).sh.da
  ·rw[e];exact Tg.int _ _ _
  ·rw[e];exact Tg.int _ _ _
 clear hX
 have hua3:=g3 _ _ hua2
 have hpt3:=(g2'.trans g3) _ _ hpt2
 have hpw3:=g3 _ _ hpw2
 generalize n5 H2' po (.lst X11)=H3 at s3 g3 hpo3 hua3 hpt3 hpw3
 obtain ⟨_,x3,hx3,ok3⟩:=id s3
 refine ⟨_,rfl,l,11,x3,b,rfl,hx3,ok3,by decide,by decide,fun y x4 hy ok4=>?_⟩
 have s4:=s3.go ok4
 have k4:Kp l H3 (n5 H3 l (.lst [.int x4,.bl b])):=Kp.at
 dsimp only
 generalize n5 H3 l (.lst [.int x4,.bl b])=H4 at s4 k4
 have hua4:=k4 _ _ nua hua3
 have hpt4:=k4 _ _ npt hpt3
 have hpw4:=k4 _ _ npw hpw3
 have hpo4:=k4 _ _ npo hpo3
 have hy11:y<X11.length:=by rw[hX11.1];lia
 refine ⟨po,_,_,X11[y],rfl,rfl,.of hpo4,E3 (f6 hy11),?_⟩
 have hod:Tg l H4 X11[y]:=hX11.2 H4 hpt4 hpw4 _ (K0 hy11)
 generalize X11[y]=od at hod
 clear hX11 hy11 hpo4 hpo3 hpt4 hpt3 hpt2 hpw4 hpw3 hpw2
 have mo:∀(H H':Hp) (v:V),i7 H H'->Sh l H v->Sh l H' v:=fun H H' v g h=>h.kp (g.kp l)
 have hxs:∀H',∀z∈ns.map V.int,Sh l H' z:=fun H' z hz=>by
  obtain ⟨i,_,e⟩:=List.mem_map.mp hz
  rw[<- e];exact (Tg.int _ _ _).sh
 have hln:(ns.map V.int).length<=4:=by rw[d6];exact n4
 have U:∀H',i7 H4 H'->H' ua=some (.tup (ns.map V.int)):=fun H' g=>g _ _ hua4
 have T1:∀H',i7 H4 H'->cJ (Sh l) (4+1+4) (iP ai (iP ai (uR ig (T6 1) W5 (bZ (T6 2))) (tq (bM (T6 3) mD))) (uR ig (T6 1) (bZ (iP (vL fun i j=>.int (i+j)) (T6 2) (tC (.int 1)))) W5)) [some (.ref l),some (.ref ua),some (.int at0),some od,none] H':=fun H' g =>
  cJ.cat (cJ.cat (cJ.sl rfl (U _ g) (hxs _) mo hln dU (fO rfl)) (fun H'' g'=>cJ.one rfl (hod.sh.kp ((g.trans g').kp l)) mo) mo (by decide)) (fun H'' g'=>cJ.sl rfl (U _ (g.trans g')) (hxs _) mo hln (jz rfl) dU) mo (by decide)
 have T2:∀H',i7 H4 H'->cJ (Sh l) (4+1+4) (iP ai (iP ai (uR ig (T6 1) W5 (bZ (T6 2))) (tq (bM (T6 3) mD))) (uR ig (T6 1) (bZ (T6 2)) W5)) [some (.ref l),some (.ref ua),some (.int at0),some od,none] H':=fun H' g =>
  cJ.cat (cJ.cat (cJ.sl rfl (U _ g) (hxs _) mo hln dU (fO rfl)) (fun H'' g'=>cJ.one rfl (hod.sh.kp ((g.trans g').kp l)) mo) mo (by decide)) (fun H'' g'=>cJ.sl rfl (U _ (g.trans g')) (hxs _) mo hln (fO rfl) dU) mo (by decide)
 have T3:∀H',i7 H4 H'->cJ (Sh l) (4+4) (iP ai (uR ig (T6 1) W5 (bZ (T6 2))) (uR ig (T6 1) (bZ (iP (vL fun i j=>.int (i+j)) (T6 2) (tC (.int 1)))) W5)) [some (.ref l),some (.ref ua),some (.int at0),some od,none] H':=fun H' g =>
  cJ.cat (cJ.sl rfl (U _ g) (hxs _) mo hln dU (fO rfl)) (fun H'' g'=>cJ.sl rfl (U _ (g.trans g')) (hxs _) mo hln (jz rfl) dU) mo (by decide)
 show iP ai _ _ _ _ _
 refine T1 H4 (i7.refl _) _ fun p1 H5 xs1 g5 hp1 e1 l1=>?_
 show iP ai _ _ _ _ _
 refine T2 H5 g5 _ fun p2 H6 xs2 g6 hp2 e2 l2=>?_
 show iP ai _ _ _ _ _
 refine T3 H6 (g5.trans g6) _ fun p3 H7 xs3 g7 hp3 e3 l3=>?_
 have g47:=(g5.trans g6).trans g7
 have s7:ak l b H H7:=s4.same g47
 refine ⟨_,rfl,ua,_,rfl,.inr (.of (U _ g47)),fun p4 hp4=>⟨(by show 4<=i6;decide),fun ps hps=>?_⟩⟩
 have s8:ak l b H (n5 H7 p4 (.lst (ns.map V.int))):=s7.new hp4
 have np4:p4≠l:=(s7.ne hp4).symm
 have s9:ak l b H (n5 (n5 H7 p4 (.lst (ns.map V.int))) ps (.lst [.ref p1,.ref p2,.ref p3,.ref p4])):=s8.new hps
 have nps:ps≠l:=(s8.ne hps).symm
 have g79:i7 H7 (n5 (n5 H7 p4 (.lst (ns.map V.int))) ps (.lst [.ref p1,.ref p2,.ref p3,.ref p4])):=(i7.new hp4).trans (i7.new hps)
 have hp4':n5 (n5 H7 p4 (.lst (ns.map V.int))) ps (.lst [.ref p1,.ref p2,.ref p3,.ref p4]) p4=some (.lst (ns.map V.int)):=by rw[C0 (fun e=>by rw[<- e,f7] at hps;cases hps),f7]
 have hps':n5 (n5 H7 p4 (.lst (ns.map V.int))) ps (.lst [.ref p1,.ref p2,.ref p3,.ref p4]) ps=some (.lst [.ref p1,.ref p2,.ref p3,.ref p4]):=f7
 show iO _ _ _ _ (n5 (n5 H7 p4 (.lst (ns.map V.int))) ps (.lst [.ref p1,.ref p2,.ref p3,.ref p4]))
 generalize n5 (n5 H7 p4 (.lst (ns.map V.int))) ps (.lst [.ref p1,.ref p2,.ref p3,.ref p4])=H9 at s9 g79 hp4' hps'
 have tg:∀{p:Addr}{xs:List V}{m:Nat}{Ha:Hp},i7 Ha H9->Ha p=some (.tup xs)->(∀z∈xs,Sh l Ha z)->xs.length<=m->m<=1000->Tg l H9 (.ref p):=fun {p xs m Ha} g h e lm hm=>Tg.tup (g _ _ h) (s9.neL (g _ _ h)) (by lia) fun z hz=>mo _ _ _ g (e z hz)
 have t1:Tg l H9 (.ref p1):=tg ((g6.trans g7).trans g79) hp1 e1 l1 (by decide)
 have t2:Tg l H9 (.ref p2):=tg (g7.trans g79) hp2 e2 l2 (by decide)
 have t3:Tg l H9 (.ref p3):=tg g79 hp3 e3 l3 (by decide)
 have t4:Tg l H9 (.ref p4):=Tg.lst hp4' np4 fun z hz=>(hxs _ z hz).da
 have hod9:Tg l H9 od:=hod.kp ((g47.trans g79).kp l)
 have hua9:=U _ (g47.trans g79)
 clear T1 T2 T3 U
 refine ⟨_,rfl,(by show 1<=i6;decide),fun q0 hq0=>?_⟩
 have gA:i7 H9 (n5 H9 q0 (.tup [.int 0])):=i7.new hq0
 have hA:n5 H9 q0 (.tup [.int 0]) q0=some (.tup [.int 0]):=f7
 dsimp only
 generalize n5 H9 q0 (.tup [.int 0])=HA at gA hA
 refine ⟨_,rfl,ua,_,rfl,.inr (.of (gA _ _ hua9)),q0,.int 0,ns.length,rfl,(by rw[d6]),hA,n1,n4,fun pa HB gB hpa=>?_⟩
 refine ⟨_,rfl,(by show 1<=i6;decide),fun pf hpf=>?_⟩
 have gE:i7 HB (n5 HB pf (.tup [.ref ua])):=i7.new hpf
 have hE:n5 HB pf (.tup [.ref ua]) pf=some (.tup [.ref ua]):=f7
 dsimp only
 generalize n5 HB pf (.tup [.ref ua])=HE at gE hE
 have g9E:=(gA.trans gB).trans gE
 refine ⟨_,rfl,ua,_,rfl,rfl,g9E _ _ hua9,(by rw[d6];exact n1),hln,fun pg HF gF hpg=>⟨_,rfl,(by show 5<=i6;decide),fun ph hph=>?_⟩⟩
 have g9F:=g9E.trans gF
 have s9F:=s9.same g9F
 have hps1:=g9F _ _ hps'
 refine ⟨ps,ph,_,_,rfl,rfl,(by rw[C0 (v5 hps1 hph)];exact hps1),f7,(by show 4+5<=i6;decide),fun pz hpz=>?_⟩
 have gG:i7 HF (n5 (n5 HF ph (.lst [.ref pa,.non,.ref pf,.ref pg,od])) pz (.lst ([.ref p1,.ref p2,.ref p3,.ref p4]++[.ref pa,.non,.ref pf,.ref pg,od]))):=(i7.new hph).trans (i7.new hpz)
 have hz:n5 (n5 HF ph (.lst [.ref pa,.non,.ref pf,.ref pg,od])) pz (.lst ([.ref p1,.ref p2,.ref p3,.ref p4]++[.ref pa,.non,.ref pf,.ref pg,od])) pz=some (.lst ([.ref p1,.ref p2,.ref p3,.ref p4]++[.ref pa,.non,.ref pf,.ref pg,od])):=f7
 have nz:pz≠l:=((s9F.new hph).ne hpz).symm
 have sG:=s9F.same gG
 show GI _ _ _ (n5 (n5 HF ph (.lst [.ref pa,.non,.ref pf,.ref pg,od])) pz (.lst ([.ref p1,.ref p2,.ref p3,.ref p4]++[.ref pa,.non,.ref pf,.ref pg,od])))
 generalize n5 (n5 HF ph (.lst [.ref pa,.non,.ref pf,.ref pg,od])) pz (.lst ([.ref p1,.ref p2,.ref p3,.ref p4]++[.ref pa,.non,.ref pf,.ref pg,od]))=HG at gG hz sG
 have all:∀y∈([.ref p1,.ref p2,.ref p3,.ref p4]++[.ref pa,.non,.ref pf,.ref pg,od]:List V),Tg l HG y:=fun y hy=>by
  simp only[M3,aF,B6,C3,or_false] at hy
  have k9:=(g9F.trans gG).kp l
  rcases hy with e|e|e|e|e|e|e|e|e
  ·rw[e];exact t1.kp k9
  ·rw[e];exact t2.kp k9
  ·rw[e];exact t3.kp k9
  ·rw[e];exact t4.kp k9
  ·rw[e]
   have h:=((gE.trans gF).trans gG) _ _ hpa
   exact Tg.tup h (sG.neL h) (by rw[P0];lia) fun z hz=>by rw[iA hz];exact (Tg.int _ _ _).sh
  ·rw[e];exact Tg.non _ _
  ·rw[e]
   have h:=(gF.trans gG) _ _ hE
   have hu:=(g9F.trans gG) _ _ hua9
   exact Tg.tup h (sG.neL h) (by show 1<=1000;decide) fun z hz=>by rw[List.mem_singleton.mp hz];exact Sh.tup hu (sG.neL hu) (by lia) fun z' hz'=>(hxs _ z' hz').da
  ·rw[e]
   have h:=gG _ _ hpg
   refine Tg.tup h (sG.neL h) (by simp[Z2];lia) fun z hz=>?_
   obtain ⟨ys,h1,h2⟩:=List.mem_flatten.mp hz
   rw[iA h1] at h2
   exact hxs _ z h2
  ·rw[e];exact hod9.kp k9
 generalize hL9:([.ref p1,.ref p2,.ref p3,.ref p4]++[.ref pa,.non,.ref pf,.ref pg,od]:List V)=L9 at hz all
 have hlen9:L9.length=9:=by rw[<- hL9];rfl
 refine ⟨_,rfl,(by show 12<=i6;decide),fun pk hpk=>?_⟩
 have sH:=sG.new (o:=.lst [.int 0,.int 0,.int 0,.int 0,.int 1,.int 2,.int 3,.int 4,.int 5,.int 6,.int 7,.int 8]) hpk
 have npk:pk≠l:=(sG.ne hpk).symm
 have kH:Kp l HG (n5 HG pk (.lst [.int 0,.int 0,.int 0,.int 0,.int 1,.int 2,.int 3,.int 4,.int 5,.int 6,.int 7,.int 8])):=Kp.new hpk
 have hk:n5 HG pk (.lst [.int 0,.int 0,.int 0,.int 0,.int 1,.int 2,.int 3,.int 4,.int 5,.int 6,.int 7,.int 8]) pk=some (.lst [.int 0,.int 0,.int 0,.int 0,.int 1,.int 2,.int 3,.int 4,.int 5,.int 6,.int 7,.int 8]):=f7
 obtain ⟨_,xH,hxH,okH⟩:=id sH
 refine ⟨_,rfl,l,12,xH,b,rfl,hxH,okH,by decide,by decide,fun y xI hy okI=>?_⟩
 have sI:=sH.go okI
 have kI:Kp l (n5 HG pk (.lst [.int 0,.int 0,.int 0,.int 0,.int 1,.int 2,.int 3,.int 4,.int 5,.int 6,.int 7,.int 8])) (n5 (n5 HG pk (.lst [.int 0,.int 0,.int 0,.int 0,.int 1,.int 2,.int 3,.int 4,.int 5,.int 6,.int 7,.int 8])) l (.lst [.int xI,.bl b])):=Kp.at
 have hk2:=kI _ _ npk hk
 have hz2:=(kH.trans kI) _ _ nz hz
 obtain ⟨k,hk3,hk4⟩:=HJ y (by lia)
 refine ⟨pk,_,_,_,rfl,rfl,.of hk2,E3 hk3,pz,_,_,L9[k]'(by lia),rfl,rfl,.of hz2,E3 (f6 _),q _ _ sI ((all _ (K0 _)).kp (kH.trans kI))⟩
end
section
variable {P:j6}{w:r9}{K:m9}{mg:Str->Option b9}{base:Heap}{f:Addr}{fd:D6}
theorem Kl:∀y:Nat,y<8->∃k:Nat,([.int 0,.int 0,.int 0,.int 0,.int 1,.int 2,.int 3,.int 4]:List V)[y]?=some (.int k)/\k<5
 | 0,_=>⟨0,rfl,by decide⟩
 | 1,_=>⟨0,rfl,by decide⟩
 | 2,_=>⟨0,rfl,by decide⟩
 | 3,_=>⟨0,rfl,by decide⟩
 | 4,_=>⟨1,rfl,by decide⟩
 | 5,_=>⟨2,rfl,by decide⟩
 | 6,_=>⟨3,rfl,by decide⟩
 | 7,_=>⟨4,rfl,by decide⟩
theorem HK:∀y:Nat,y<11->∃k:Nat,([.int 0,.int 0,.int 0,.int 0,.int 0,.int 1,.int 2,.int 3,.int 4,.int 5,.int 6]:List V)[y]?=some (.int k)/\k<7
 | 0,_=>⟨0,rfl,by decide⟩
 | 1,_=>⟨0,rfl,by decide⟩
 | 2,_=>⟨0,rfl,by decide⟩
 | 3,_=>⟨0,rfl,by decide⟩
 | 4,_=>⟨0,rfl,by decide⟩
 | 5,_=>⟨1,rfl,by decide⟩
 | 6,_=>⟨2,rfl,by decide⟩
 | 7,_=>⟨3,rfl,by decide⟩
 | 8,_=>⟨4,rfl,by decide⟩
 | 9,_=>⟨5,rfl,by decide⟩
 | 10,_=>⟨6,rfl,by decide⟩
noncomputable def Cu:Sp:=fun vs H Q _=>∃(l:Addr) (rv:V) (x:Int) (b:Bool) (n:Nat) (rs:List (List Int)),vs=[.ref l,rv]/\H l=some (.lst [.int x,.bl b])/\lT x b/\Dt l H (DR rs) rv/\Mt.lU n 5 rs/\1<=n/\n<=4 /\
 ∀(v:V) (H':Hp),ak l b H H'->Tg l H' v->Q v H'
noncomputable abbrev Hw:Stmt:=fE 56
theorem pE:D9 ["_law_state_here","_law_rule_here","_law_at","_law_k","_law_row","_law_odd_here","_law_rows","_law_one","_law_some"] ["_law_state_here","_law_rule_here"] (A1 Hw):=⟨rfl,rfl,rfl,by decide +kernel,rfl,by decide +kernel,by decide +kernel⟩
theorem KG (F:bT K "_law_bent_rule" "_law_bent_rule" Hw f fd) (B:Bt mg) (c1:V4 P w K mg base 1 "_law_take" ["_law_state_here","_law_many"] ba):N0 P w K mg base dI 2 f fd ["_law_state_here","_law_rule_here"] Cu:=by
 refine F.ok pE (fun vs H Q E h=>?_) (fun cdv A outer s H vs Q E hr h=>?_)
 ·obtain ⟨l,rv,x,b,n,rs,rfl,_⟩:=h
  rfl
 obtain ⟨l,rv,x,b,n,rs,rfl,hl,hst,hrd,hR,n1,n4,q⟩:=h
 refine ⟨_,m7 (kB (i:=2) (j:=3) rfl pE.nd rfl rfl (by decide) rfl rfl (b7 (B9 c1 hr rfl (b7 (pv 0) (b7 (u5 D8 rfl B.len C8 (b7 (pv 1) d8)) d8))) (b7 (B9 c1 hr rfl (b7 (pv 0) (b7 (u5 D8 rfl B.len C8 (b7 (pv 1) d8)) d8))) d8)) rfl)
  (m7 (F9 (i:=4) pE.nd rfl (A2 rfl) (G4 L7 (pv 1) (pv 2) (fun _ _=>rfl)))
  (m7 (F9 (i:=5) pE.nd rfl (A2 rfl) (@G4 _ _ _ _ _ _ _ R8 (@N8 _ _ _ _ (mP 7 rfl (b7 (D3 (b7 j0 d8)) (b7 (D5 kD j0 j0) (b7 (G4 L7 (pv 4) (pv 3) (fun _ _=>rfl)) d8))))) (B9 c1 hr rfl (b7 (pv 0) (b7 j0 d8))) (fun _ _=>rfl)))
  (m7 (F9 (i:=6) pE.nd rfl (A2 rfl) (N8
   (b7 (D5 jM (D5 jM (Q5 tG (pv 4) W0 (V9 (pv 3))) (D3 (b7 (pv 5) d8))) (Q5 tG (pv 4) (V9 (D5 Z5 (pv 3) j0)) W0))
   (b7 (D5 jM (D5 jM (Q5 tG (pv 4) W0 (V9 (pv 3))) (D3 (b7 (pv 5) d8))) (Q5 tG (pv 4) (V9 (pv 3)) W0))
   (b7 (D5 jM (Q5 tG (pv 4) W0 (V9 (pv 3))) (Q5 tG (pv 4) (V9 (D5 Z5 (pv 3) j0)) W0))
   (b7 (G7 eF rfl B.list iy (b7 (pv 4) d8)) (mR rfl)))))))
  (m7 (F9 (i:=7) pE.nd rfl (A2 rfl) (uc rfl (pv 6) (B9 c1 hr rfl (b7 (pv 0) (b7 j0 d8))) (fun _ _=>rfl)))
  (m7 (F9 (i:=8) pE.nd rfl (A2 rfl) (N8
   (b7 (D5 jM (D5 jM (Q5 tG (pv 1) W0 (V9 (pv 2))) (D3 (b7 (pv 7) d8))) (Q5 tG (pv 1) (V9 (D5 Z5 (pv 2) j0)) W0))
   (b7 (D5 jM (Q5 tG (pv 1) W0 (V9 (pv 2))) (Q5 tG (pv 1) (V9 (D5 Z5 (pv 2) j0)) W0))
   (b7 (D5 jM (pv 1) (D3 (b7 (pv 4) d8)))
   (b7 (G7 eF rfl B.list iy (b7 (pv 1) d8)) (@jK _ _ _ _ _ _ _ kC (b7 (D3 (b7 (pv 1) d8)) d8))))))))
  (t6 (D7 (uc rfl (D5 kF (pv 8) (N8 (b7 (pv 4) d8))) (B9 c1 hr rfl (b7 (pv 0) (b7 j0 d8))) (fun _ _=>rfl))))))))),?_⟩
 obtain ⟨ra,zs,e,nra,hra,hds⟩:=hrd.untup
 subst e
 have hzl:zs.length=n:=by rw[<- hds.len,d6];exact hR.len
 have s0:ak l b H H:=ak.start hl hst
 refine ⟨_,rfl,_,rfl,ra,_,rfl,.inr (.of hra),l,_,x,b,rfl,hl,hst,(by lia),(by lia),fun at0 x1 hat ok1=>?_⟩
 have s1:=s0.go ok1
 have k1:Kp l H (n5 H l (.lst [.int x1,.bl b])):=Kp.at
 try dsimp only
 generalize n5 H l (.lst [.int x1,.bl b])=H1 at s1 k1
 have hra1:=k1 _ _ nra hra
 obtain ⟨_,x1',hx1,ok1'⟩:=id s1
 refine ⟨_,rfl,_,rfl,ra,_,rfl,.inr (.of hra1),l,_,x1',b,rfl,hx1,ok1',(by lia),(by lia),fun k0 x2 hk0 Bx=>⟨_,_,rfl,?_⟩⟩
 have s2:=s1.go Bx
 have k2:Kp l H1 (n5 H1 l (.lst [.int x2,.bl b])):=Kp.at
 try dsimp only
 generalize n5 H1 l (.lst [.int x2,.bl b])=H2 at s2 k2
 have hat':at0<rs.length:=by rw[hR.len];lia
 obtain ⟨ra',zs',lb,e1,e2,hzb,hlb⟩:=yH hrd hat'
 cases e1
 rw[hra] at e2
 cases e2
 have hrow:Mt.DX n 5 (rs.getD at0 []):=hR.at (by rw[<- hR.len];exact hat')
 generalize rs.getD at0 []=row at hlb hrow
 have nlb:lb≠l:=Ji hl hlb
 have hra2:=k2 _ _ nra hra1
 have hlb2:=(k1.trans k2) _ _ nlb hlb
 have hds2:=hds.kp (k1.trans k2)
 have hrl:=hrow.len
 refine ⟨_,rfl,_,rfl,ra,_,_,_,rfl,rfl,.of hra2,E3 hzb,?_⟩
 refine ⟨(by show 1<=i6;decide),fun pt hpt=>?_⟩
 have s3:ak l b H (n5 H2 pt (.tup [.int 1])):=s2.new hpt
 have g3:i7 H2 (n5 H2 pt (.tup [.int 1])):=i7.new hpt
 have hpt3:n5 H2 pt (.tup [.int 1]) pt=some (.tup [.int 1]):=f7
 try dsimp only
 generalize n5 H2 pt (.tup [.int 1])=H3 at s3 g3 hpt3
 have npt:pt≠l:=s3.neL hpt3
 refine ⟨_,_,rfl,rfl,⟨by decide,by decide,by decide⟩,_,rfl,_,rfl,lb,_,_,_,rfl,rfl,.of (g3 _ _ hlb2),lS (by lia),(by show 10<=i6;decide),fun po hpo=>?_⟩
 have s4:=s3.new (o:=.lst ([.int 6,.int (-1),.int 5,.int 0,.bl true,.non,.str "1"]++[.ref pt,.int (10 ^ 29),.int (row.getD k0 0)])) hpo
 have npo:po≠l:=(s3.ne hpo).symm
 have g4:i7 H3 (n5 H3 po (.lst ([.int 6,.int (-1),.int 5,.int 0,.bl true,.non,.str "1"]++[.ref pt,.int (10 ^ 29),.int (row.getD k0 0)]))):=i7.new hpo
 have hpo4:n5 H3 po (.lst ([.int 6,.int (-1),.int 5,.int 0,.bl true,.non,.str "1"]++[.ref pt,.int (10 ^ 29),.int (row.getD k0 0)])) po=some (.lst ([.int 6,.int (-1),.int 5,.int 0,.bl true,.non,.str "1"]++[.ref pt,.int (10 ^ 29),.int (row.getD k0 0)])):=f7
 show GM ba _ _ (n5 H3 po (.lst ([.int 6,.int (-1),.int 5,.int 0,.bl true,.non,.str "1"]++[.ref pt,.int (10 ^ 29),.int (row.getD k0 0)]))) _
 generalize hX:(([.int 6,.int (-1),.int 5,.int 0,.bl true,.non,.str "1"]++[.ref pt,.int (10 ^ 29),.int (row.getD k0 0)]):List V)=X10 at s4 g4 hpo4
 have hX10:X10.length=10/\∀(H':Hp),H' pt=some (.tup [.int 1])->∀y∈X10,Tg l H' y:=by
  rw[<- hX]
  refine ⟨rfl,fun H' h y hy=>?_⟩
  simp only[M3,aF,B6,C3,or_false] at hy
  rcases hy with e|e|e|e|e|e|e|e|e|e
  ·rw[e];exact Tg.int _ _ _
  ·rw[e];exact Tg.int _ _ _
  ·rw[e];exact Tg.int _ _ _
  ·rw[e];exact Tg.int _ _ _
  ·rw[e];exact Tg.bl _ _ _
  ·rw[e];exact Tg.non _ _
  ·rw[e];exact Tg.str _ _ _
  ·rw[e];exact Tg.tup h npt (by decide) fun z hz=>by rw[List.mem_singleton.mp hz];exact (Tg.int _ _ _).sh
  ·rw[e];exact Tg.int _ _ _
  ·rw[e];exact Tg.int _ _ _
 clear hX
 have g24:=g3.trans g4
 have hpt4:=g4 _ _ hpt3
 generalize n5 H3 po (.lst X10)=H4 at s4 g24 g4 hpo4 hpt4
 obtain ⟨_,x4,hx4,ok4⟩:=id s4
 refine ⟨_,rfl,l,10,x4,b,rfl,hx4,ok4,by decide,by decide,fun y x5 hy ok5=>?_⟩
 have s5:=s4.go ok5
 have k5:Kp l H4 (n5 H4 l (.lst [.int x5,.bl b])):=Kp.at
 dsimp only
 generalize n5 H4 l (.lst [.int x5,.bl b])=H5 at s5 k5
 have k25:=(g24.kp l).trans k5
 have hra5:=k25 _ _ nra hra2
 have hlb5:=k25 _ _ nlb hlb2
 have hds5:=hds2.kp k25
 have hpt5:=k5 _ _ npt hpt4
 have hpo5:=k5 _ _ npo hpo4
 have hy10:y<X10.length:=by rw[hX10.1];lia
 refine ⟨po,_,_,X10[y],rfl,rfl,.of hpo5,E3 (f6 hy10),?_⟩
 have hod:Tg l H5 X10[y]:=hX10.2 H5 hpt5 _ (K0 hy10)
 generalize X10[y]=od at hod
 clear hX10 hy10 hpo5 hpo4 hpt5 hpt4 hpt3 k25 g24 k5 g4 g3 s4 s3 s2 s1 k1 k2 hra1 hra2 hlb2 hds2 hx1 hx4
 have moD:∀(H H':Hp) (v:V),i7 H H'->Da l H v->Da l H' v:=fun H H' v g h=>h.kp (g.kp l)
 have moS:∀(H H':Hp) (v:V),i7 H H'->Sh l H v->Sh l H' v:=fun H H' v g h=>h.kp (g.kp l)
 have hxs:∀H',∀z∈row.map V.int,Da l H' z:=fun H' z hz=>by
  obtain ⟨i,_,e⟩:=List.mem_map.mp hz
  rw[<- e];exact (Tg.int _ _ _).sh.da
 have hln:(row.map V.int).length<=4:=by rw[d6,hrow.len];exact n4
 have U:∀H',i7 H5 H'->H' lb=some (.tup (row.map V.int)):=fun H' g=>g _ _ hlb5
 have T1:∀H',i7 H5 H'->cJ (Da l) (4+1+4) (iP ai (iP ai (uR ig (T6 4) W5 (bZ (T6 3))) (tq (bM (T6 5) mD))) (uR ig (T6 4) (bZ (iP (vL fun i j=>.int (i+j)) (T6 3) (tC (.int 1)))) W5)) [some (.ref l),some (.ref ra),some (.int at0),some (.int k0),some (.ref lb),some od,none,none,none] H':=fun H' g =>
  cJ.cat (cJ.cat (cJ.sl rfl (U _ g) (hxs _) moD hln dU (fO rfl)) (fun H'' g'=>cJ.one rfl (hod.sh.da.kp ((g.trans g').kp l)) moD) moD (by decide)) (fun H'' g'=>cJ.sl rfl (U _ (g.trans g')) (hxs _) moD hln (jz rfl) dU) moD (by decide)
 have T2:∀H',i7 H5 H'->cJ (Da l) (4+1+4) (iP ai (iP ai (uR ig (T6 4) W5 (bZ (T6 3))) (tq (bM (T6 5) mD))) (uR ig (T6 4) (bZ (T6 3)) W5)) [some (.ref l),some (.ref ra),some (.int at0),some (.int k0),some (.ref lb),some od,none,none,none] H':=fun H' g =>
  cJ.cat (cJ.cat (cJ.sl rfl (U _ g) (hxs _) moD hln dU (fO rfl)) (fun H'' g'=>cJ.one rfl (hod.sh.da.kp ((g.trans g').kp l)) moD) moD (by decide)) (fun H'' g'=>cJ.sl rfl (U _ (g.trans g')) (hxs _) moD hln (fO rfl) dU) moD (by decide)
 have T3:∀H',i7 H5 H'->cJ (Da l) (4+4) (iP ai (uR ig (T6 4) W5 (bZ (T6 3))) (uR ig (T6 4) (bZ (iP (vL fun i j=>.int (i+j)) (T6 3) (tC (.int 1)))) W5)) [some (.ref l),some (.ref ra),some (.int at0),some (.int k0),some (.ref lb),some od,none,none,none] H':=fun H' g =>
  cJ.cat (cJ.sl rfl (U _ g) (hxs _) moD hln dU (fO rfl)) (fun H'' g'=>cJ.sl rfl (U _ (g.trans g')) (hxs _) moD hln (jz rfl) dU) moD (by decide)
 show iP ai _ _ _ _ _
 refine T1 H5 (i7.refl _) _ fun p1 H6 xs1 g6 hp1 e1 l1=>?_
 show iP ai _ _ _ _ _
 refine T2 H6 g6 _ fun p2 H7 xs2 g7 hp2 e2 l2=>?_
 show iP ai _ _ _ _ _
 refine T3 H7 (g6.trans g7) _ fun p3 H8 xs3 g8 hp3 e3 l3=>?_
 have g58:=(g6.trans g7).trans g8
 have s8:ak l b H H8:=s5.same g58
 refine ⟨_,rfl,lb,_,rfl,.inr (.of (U _ g58)),fun p4 hp4=>⟨(by show 5<=i6;decide),fun prw hprw=>?_⟩⟩
 have s9:ak l b H (n5 H8 p4 (.lst (row.map V.int))):=s8.new hp4
 have np4:p4≠l:=(s8.ne hp4).symm
 have s10:ak l b H (n5 (n5 H8 p4 (.lst (row.map V.int))) prw (.lst [.ref p1,.ref p2,.ref p3,.ref p4,.non])):=s9.new hprw
 have nprw:prw≠l:=(s9.ne hprw).symm
 have g810:i7 H8 (n5 (n5 H8 p4 (.lst (row.map V.int))) prw (.lst [.ref p1,.ref p2,.ref p3,.ref p4,.non])):=(i7.new hp4).trans (i7.new hprw)
 have hp4':n5 (n5 H8 p4 (.lst (row.map V.int))) prw (.lst [.ref p1,.ref p2,.ref p3,.ref p4,.non]) p4=some (.lst (row.map V.int)):=by rw[C0 (fun e=>by rw[<- e,f7] at hprw;cases hprw),f7]
 have hprw':n5 (n5 H8 p4 (.lst (row.map V.int))) prw (.lst [.ref p1,.ref p2,.ref p3,.ref p4,.non]) prw=some (.lst [.ref p1,.ref p2,.ref p3,.ref p4,.non]):=f7
 show iO _ _ _ _ (n5 (n5 H8 p4 (.lst (row.map V.int))) prw (.lst [.ref p1,.ref p2,.ref p3,.ref p4,.non]))
 generalize n5 (n5 H8 p4 (.lst (row.map V.int))) prw (.lst [.ref p1,.ref p2,.ref p3,.ref p4,.non])=H10 at s10 g810 hp4' hprw'
 have tg:∀{p:Addr}{xs:List V}{m:Nat}{Ha:Hp},i7 Ha H10->Ha p=some (.tup xs)->(∀z∈xs,Da l Ha z)->xs.length<=m->m<=1000->Sh l H10 (.ref p):=fun {p xs m Ha} g h e lm hm=>Sh.tup (g _ _ h) (s10.neL (g _ _ h)) (by lia) fun z hz=>moD _ _ _ g (e z hz)
 have alr:∀z∈([.ref p1,.ref p2,.ref p3,.ref p4,.non]:List V),Sh l H10 z:=fun z hz=>by
  simp only[B6,C3,or_false] at hz
  rcases hz with e|e|e|e|e
  ·rw[e];exact tg ((g7.trans g8).trans g810) hp1 e1 l1 (by decide)
  ·rw[e];exact tg (g8.trans g810) hp2 e2 l2 (by decide)
  ·rw[e];exact tg g810 hp3 e3 l3 (by decide)
  ·rw[e];exact (Tg.lst hp4' np4 fun z hz=>hxs _ z hz).sh
  ·rw[e];exact (Tg.non _ _).sh
 generalize hrws:([.ref p1,.ref p2,.ref p3,.ref p4,.non]:List V)=rws at hprw' alr
 have hrl5:rws.length=5:=by rw[<- hrws];rfl
 clear T1 T2 T3
 refine ⟨_,rfl,(by show 8<=i6;decide),fun pk hpk=>?_⟩
 have s11:=s10.new (o:=.lst [.int 0,.int 0,.int 0,.int 0,.int 1,.int 2,.int 3,.int 4]) hpk
 have npk:pk≠l:=(s10.ne hpk).symm
 have k11:Kp l H10 (n5 H10 pk (.lst [.int 0,.int 0,.int 0,.int 0,.int 1,.int 2,.int 3,.int 4])):=Kp.new hpk
 have hk11:n5 H10 pk (.lst [.int 0,.int 0,.int 0,.int 0,.int 1,.int 2,.int 3,.int 4]) pk=some (.lst [.int 0,.int 0,.int 0,.int 0,.int 1,.int 2,.int 3,.int 4]):=f7
 obtain ⟨_,x11,hx11,ok11⟩:=id s11
 refine ⟨_,rfl,l,8,x11,b,rfl,hx11,ok11,by decide,by decide,fun y2 x12 hy2 ok12=>?_⟩
 have s12:=s11.go ok12
 have k12:Kp l (n5 H10 pk (.lst [.int 0,.int 0,.int 0,.int 0,.int 1,.int 2,.int 3,.int 4])) (n5 (n5 H10 pk (.lst [.int 0,.int 0,.int 0,.int 0,.int 1,.int 2,.int 3,.int 4])) l (.lst [.int x12,.bl b])):=Kp.at
 have hk12:=k12 _ _ npk hk11
 have k1012:=k11.trans k12
 dsimp only
 generalize n5 (n5 H10 pk (.lst [.int 0,.int 0,.int 0,.int 0,.int 1,.int 2,.int 3,.int 4])) l (.lst [.int x12,.bl b])=H12 at s12 hk12 k1012
 obtain ⟨k,hk3,hk4⟩:∃k:Nat,([.int 0,.int 0,.int 0,.int 0,.int 1,.int 2,.int 3,.int 4]:List V)[y2]?=some (.int k)/\k<5:=Kl y2 (by lia)
 refine ⟨pk,_,_,_,rfl,rfl,.of hk12,E3 hk3,prw,_,_,rws[k]'(by lia),rfl,rfl,.of (k1012 _ _ nprw hprw'),E3 (f6 _),?_⟩
 have hon:Sh l H12 (rws[k]'(by lia)):=(alr _ (K0 _)).kp k1012
 generalize rws[k]'(by lia)=on at hon
 have k512:=((g58.trans g810).kp l).trans k1012
 have hra12:=k512 _ _ nra hra5
 have hlb12:=k512 _ _ nlb hlb5
 have hod12:=hod.kp k512
 have hds12:=hds5.kp k512
 have hlbS:∀H',i7 H12 H'->Sh l H' (.ref lb):=fun H' g=>Sh.tup (g _ _ hlb12) nlb (by lia) fun z hz=>hxs _ z hz
 have hzs:∀H',i7 H12 H'->∀z∈zs,Sh l H' z:=fun H' g z hz=>by
  obtain ⟨i,hi⟩:=List.getElem?_of_mem hz
  obtain ⟨d,hd,dt⟩:=hds12.get hi
  rw[A4] at hd
  obtain ⟨r,hr',e⟩:=Option.map_eq_some_iff.mp hd
  subst e
  have hm:=C5 hr'
  exact ⟨_,dt.kp (g.kp l),fg (by rw[(hR.row r hm).len];lia)⟩
 have hzl4:zs.length<=4:=by lia
 have V1:∀H',i7 H12 H'->cJ (Sh l) (4+1+4) (iP ai (iP ai (uR ig (T6 1) W5 (bZ (T6 2))) (tq (bM (T6 7) mD))) (uR ig (T6 1) (bZ (iP (vL fun i j=>.int (i+j)) (T6 2) (tC (.int 1)))) W5)) [some (.ref l),some (.ref ra),some (.int at0),some (.int k0),some (.ref lb),some od,some (.ref prw),some on,none] H':=fun H' g =>
  cJ.cat (cJ.cat (cJ.sl rfl (g _ _ hra12) (hzs _ g) moS hzl4 dU (fO rfl)) (fun H'' g'=>cJ.one rfl (hon.kp ((g.trans g').kp l)) moS) moS (by decide)) (fun H'' g'=>cJ.sl rfl ((g.trans g') _ _ hra12) (hzs _ (g.trans g')) moS hzl4 (jz rfl) dU) moS (by decide)
 have V2:∀H',i7 H12 H'->cJ (Sh l) (4+4) (iP ai (uR ig (T6 1) W5 (bZ (T6 2))) (uR ig (T6 1) (bZ (iP (vL fun i j=>.int (i+j)) (T6 2) (tC (.int 1)))) W5)) [some (.ref l),some (.ref ra),some (.int at0),some (.int k0),some (.ref lb),some od,some (.ref prw),some on,none] H':=fun H' g =>
  cJ.cat (cJ.sl rfl (g _ _ hra12) (hzs _ g) moS hzl4 dU (fO rfl)) (fun H'' g'=>cJ.sl rfl ((g.trans g') _ _ hra12) (hzs _ (g.trans g')) moS hzl4 (jz rfl) dU) moS (by decide)
 have V3:∀H',i7 H12 H'->cJ (Sh l) (4+1) (iP ai (T6 1) (tq (bM (T6 4) mD))) [some (.ref l),some (.ref ra),some (.int at0),some (.int k0),some (.ref lb),some od,some (.ref prw),some on,none] H':=fun H' g =>
  cJ.cat (cJ.var rfl (g _ _ hra12) (hzs _ g) hzl4) (fun H'' g'=>cJ.one rfl (hlbS _ (g.trans g')) moS) moS (by decide)
 show iP ai _ _ _ _ _
 refine V1 H12 (i7.refl _) _ fun q1 J1 ys1 j1 hq1 f1 m1=>?_
 show iP ai _ _ _ _ _
 refine V2 J1 j1 _ fun q2 J2 ys2 j2 hq2 f2 m2=>?_
 show iP ai _ _ _ _ _
 refine V3 J2 (j1.trans j2) _ fun q3 J3 ys3 j3 hq3 f3 m3=>?_
 have j123:=(j1.trans j2).trans j3
 have t3:ak l b H J3:=s12.same j123
 refine ⟨_,rfl,ra,_,rfl,.inr (.of (j123 _ _ hra12)),fun q4 hq4=>?_⟩
 have t4:ak l b H (n5 J3 q4 (.lst zs)):=t3.new hq4
 have nq4:q4≠l:=(t3.ne hq4).symm
 have j4:i7 J3 (n5 J3 q4 (.lst zs)):=i7.new hq4
 have hq4':n5 J3 q4 (.lst zs) q4=some (.lst zs):=f7
 try dsimp only
 generalize n5 J3 q4 (.lst zs)=J4 at t4 j4 hq4'
 refine ⟨_,rfl,(by show 1<=i6;decide),fun pf hpf=>⟨(by show 6<=i6;decide),fun ps hps=>?_⟩⟩
 have hE:n5 J4 pf (.tup [.ref ra]) pf=some (.tup [.ref ra]):=f7
 have j5:i7 J4 (n5 (n5 J4 pf (.tup [.ref ra])) ps (.lst [.ref q1,.ref q2,.ref q3,.ref q4,.non,.ref pf])):=(i7.new hpf).trans (i7.new hps)
 have hE5:n5 (n5 J4 pf (.tup [.ref ra])) ps (.lst [.ref q1,.ref q2,.ref q3,.ref q4,.non,.ref pf]) pf=some (.tup [.ref ra]):=i7.new hps _ _ hE
 have hps':n5 (n5 J4 pf (.tup [.ref ra])) ps (.lst [.ref q1,.ref q2,.ref q3,.ref q4,.non,.ref pf]) ps=some (.lst [.ref q1,.ref q2,.ref q3,.ref q4,.non,.ref pf]):=f7
 dsimp only[V7]
 generalize n5 (n5 J4 pf (.tup [.ref ra])) ps (.lst [.ref q1,.ref q2,.ref q3,.ref q4,.non,.ref pf])=J5 at j5 hE5 hps'
 have t5:=t4.same j5
 have j15:=(j123.trans j4).trans j5
 have tg2:∀{p:Addr}{xs:List V}{m:Nat}{Ha:Hp},i7 Ha J5->Ha p=some (.tup xs)->(∀z∈xs,Sh l Ha z)->xs.length<=m->m<=1000->Tg l J5 (.ref p):=fun {p xs m Ha} g h e lm hm=>Tg.tup (g _ _ h) (t5.neL (g _ _ h)) (by lia) fun z hz=>moS _ _ _ g (e z hz)
 have u1:Tg l J5 (.ref q1):=tg2 (((j2.trans j3).trans j4).trans j5) hq1 f1 m1 (by decide)
 have u2:Tg l J5 (.ref q2):=tg2 ((j3.trans j4).trans j5) hq2 f2 m2 (by decide)
 have u3:Tg l J5 (.ref q3):=tg2 (j4.trans j5) hq3 f3 m3 (by decide)
 have u4:Tg l J5 (.ref q4):=Tg.lst (j5 _ _ hq4') nq4 fun z hz=>(hzs _ j15 z hz).da
 have u6:Tg l J5 (.ref pf):=Tg.tup hE5 (t5.neL hE5) (by show 1<=1000;decide) fun z hz=>by rw[List.mem_singleton.mp hz];exact Sh.tup (j15 _ _ hra12) nra (by lia) fun z' hz'=>(hzs _ j15 z' hz').da
 have u7:Tg l J5 (.ref lb):=Tg.tup (j15 _ _ hlb12) nlb (by lia) fun z hz=>by
  obtain ⟨i,_,e⟩:=List.mem_map.mp hz
  rw[<- e];exact (Tg.int _ _ _).sh
 clear V1 V2 V3
 refine ⟨_,rfl,_,rfl,(by show 1<=i6;decide),fun ph hph=>⟨ps,ph,_,_,rfl,rfl,(by rw[C0 (v5 hps' hph)];exact hps'),f7,(by show 6+1<=i6;decide),fun pz hpz=>?_⟩⟩
 have gG:i7 J5 (n5 (n5 J5 ph (.lst [.ref lb])) pz (.lst ([.ref q1,.ref q2,.ref q3,.ref q4,.non,.ref pf]++[.ref lb]))):=(i7.new hph).trans (i7.new hpz)
 have hz:n5 (n5 J5 ph (.lst [.ref lb])) pz (.lst ([.ref q1,.ref q2,.ref q3,.ref q4,.non,.ref pf]++[.ref lb])) pz=some (.lst ([.ref q1,.ref q2,.ref q3,.ref q4,.non,.ref pf]++[.ref lb])):=f7
 have nz:pz≠l:=((t5.new hph).ne hpz).symm
 have sG:=t5.same gG
 try dsimp only
 generalize n5 (n5 J5 ph (.lst [.ref lb])) pz (.lst ([.ref q1,.ref q2,.ref q3,.ref q4,.non,.ref pf]++[.ref lb]))=HG at gG hz sG
 have all:∀y∈(([.ref q1,.ref q2,.ref q3,.ref q4,.non,.ref pf]++[.ref lb]):List V),Tg l HG y:=fun y hy=>by
  simp only[M3,aF,B6,C3,or_false] at hy
  have k9:=gG.kp l
  rcases hy with e|e|e|e|e|e|e
  ·rw[e];exact u1.kp k9
  ·rw[e];exact u2.kp k9
  ·rw[e];exact u3.kp k9
  ·rw[e];exact u4.kp k9
  ·rw[e];exact Tg.non _ _
  ·rw[e];exact u6.kp k9
  ·rw[e];exact u7.kp k9
 generalize hL10:(([.ref q1,.ref q2,.ref q3,.ref q4,.non,.ref pf]++[.ref lb]):List V)=L10 at hz all
 have hlen10:L10.length=7:=by rw[<- hL10];rfl
 refine ⟨(by show 11<=i6;decide),fun pk2 hpk2=>?_⟩
 have sH:=sG.new (o:=.lst [.int 0,.int 0,.int 0,.int 0,.int 0,.int 1,.int 2,.int 3,.int 4,.int 5,.int 6]) hpk2
 have npk2:pk2≠l:=(sG.ne hpk2).symm
 have kH:Kp l HG (n5 HG pk2 (.lst [.int 0,.int 0,.int 0,.int 0,.int 0,.int 1,.int 2,.int 3,.int 4,.int 5,.int 6])):=Kp.new hpk2
 have hkk:n5 HG pk2 (.lst [.int 0,.int 0,.int 0,.int 0,.int 0,.int 1,.int 2,.int 3,.int 4,.int 5,.int 6]) pk2=some (.lst [.int 0,.int 0,.int 0,.int 0,.int 0,.int 1,.int 2,.int 3,.int 4,.int 5,.int 6]):=f7
 obtain ⟨_,xH,hxH,okH⟩:=id sH
 refine ⟨_,rfl,l,11,xH,b,rfl,hxH,okH,by decide,by decide,fun y3 xI hy3 okI=>?_⟩
 have sI:=sH.go okI
 have kI:Kp l (n5 HG pk2 (.lst [.int 0,.int 0,.int 0,.int 0,.int 0,.int 1,.int 2,.int 3,.int 4,.int 5,.int 6])) (n5 (n5 HG pk2 (.lst [.int 0,.int 0,.int 0,.int 0,.int 0,.int 1,.int 2,.int 3,.int 4,.int 5,.int 6])) l (.lst [.int xI,.bl b])):=Kp.at
 have hkk2:=kI _ _ npk2 hkk
 have hz2:=(kH.trans kI) _ _ nz hz
 obtain ⟨k',hk5,hk6⟩:∃k:Nat,([.int 0,.int 0,.int 0,.int 0,.int 0,.int 1,.int 2,.int 3,.int 4,.int 5,.int 6]:List V)[y3]?=some (.int k)/\k<7:=HK y3 (by lia)
 refine ⟨pk2,_,_,_,rfl,rfl,.of hkk2,E3 hk5,pz,_,_,L10[k']'(by lia),rfl,rfl,.of hz2,E3 (f6 _),q _ _ sI ((all _ (K0 _)).kp (kH.trans kI))⟩
end
end G
namespace L2
open PySem PySem.Spec PyProof.Rows
open PySem.W (KasT)
section
variable {n:Nat} (hn:0<n)
include hn
end
end L2
namespace L2
open PySem PySem.Spec PyProof.Rows
section
variable {prog:j6}{w:r9}{A:A5}{E:b9->d7->Prop}{s:d7}
end
section
variable {prog:j6}{w:r9}{A:A5}{E:b9->d7->Prop}{s:d7}{v d:Addr}{od:Obj}{es:Array T9}{ep:Nat}
end
section
variable {prog:j6}{w:r9}{A:A5}{E:b9->d7->Prop}{s:d7}
end
section
variable {prog:j6}{w:r9}{A:A5}{E:b9->d7->Prop}{s:d7}
end
theorem lB {α β:Type}{f:α->β}:∀{l:List β}{m:List α},l.Perm (m.map f)->∃m':List α,m'.Perm m/\l=m'.map f
 | [],m,h=>by
  have e:m.map f=[]:=h.nil_eq.symm
  rw[List.map_eq_nil_iff] at e
  exact ⟨[],by rw[e],rfl⟩
 | b::l,m,h=>by
  have hb:b∈m.map f:=h.mem_iff.mp j8
  obtain ⟨x,hx,e⟩:=List.mem_map.mp hb
  obtain ⟨p,q,em⟩:=List.append_of_mem hx
  subst em e
  have h2:(f x::l).Perm (f x::(p++q).map f):=h.trans (by
   rw[A3,B7,A3]
   exact List.perm_middle)
  obtain ⟨m',h3,e3⟩:=lB (m:=p++q) h2.cons_inv
  exact ⟨x::m',(h3.cons x).trans List.perm_middle.symm,by rw[e3];rfl⟩
section
variable {X:Cx}{pins:List (Addr × Obj)}{σ:St}{H:Hp}{s:d7}
end
section
variable {K:m9}{σ0:St}{te:TE}{H:Hp}{F:List V->Hp->Prop}
theorem Bk {a:Addr}{xs:List V} (hn:xs.length<=i6) (Pv:Nat->List V->Hp->Prop) (h0:Pv 0 [] H) (hl:∀i ys H,Pv i ys H->ys.length=i) (hq:∀i ys H,i<=xs.length->Pv i ys H->eV K H a xs) (hσ:σ0[0]?=some none/\σ0[1]?=some none)
  (hs:∀i ys H x,xs[i]?=some x->Pv i ys H->∃r y z,x=.ref r/\dH K H r [y,z]/\te ((σ0.set 0 (some y)).set 1 (some z)) H fun u H'=>Pv (i+1) (ys++[u]) H') (hd:∀ys H,Pv xs.length ys H->F ys H):
  Bn (Gm K a) σ0 (qi K 2 (bP (V7 0) (bP (V7 1) rj))) S1 te H F:=by
 refine ⟨fun i m ys H=>m=xs.length - i/\i<=xs.length/\Pv i ys H,⟨xs.length,by simp,u9 _,h0⟩,?_⟩
 rintro i m ys H2 ⟨rfl,hi,p⟩
 have q:=hq i ys H2 hi p
 refine ⟨by rw[hl i ys H2 p];lia,?_⟩
 by_cases hlt:i<xs.length
 ·refine .inr ⟨⟨xs,xs[i],q,by simp[hlt]⟩,fun y H'=>Pv (i+1) (ys++[y]) H',fun _=>False,fun y H' q=>⟨xs.length - (i+1),by lia,rfl,hlt,q⟩,fun _ q=>q.elim,fun x H3 y=>?_⟩
  obtain ⟨rfl,y⟩:=y
  obtain ⟨r,y1,z1,rfl,hr,ht⟩:=hs i ys _ x (y xs q) p
  exact ⟨r,[y1,z1],rfl,hr,rfl,y1,[z1],rfl,z1,[],rfl,rfl,wk2 hσ _ _,ht⟩
 ·have e:i=xs.length:=by lia
  subst e
  exact .inl ⟨⟨xs,q,i8 _⟩,hd ys H2 p⟩
end
end L2
namespace Mq
open PySem PySem.Spec L2 Mt Md
noncomputable abbrev F7:=List (List Int × Rat)
noncomputable def bw:F7->List Int->Rat->F7
 | [],k,x=>[(k,x)]
 | p::D,k,x=>if p.1=k then (p.1,p.2+x)::D else p::bw D k x
noncomputable def iM:F7->List Int->Rat
 | [],_=>0
 | p::D,k=>if p.1=k then p.2 else iM D k
noncomputable def lH:F7->(List Int->Rat)->Rat
 | [],_=>0
 | p::D,φ=>p.2*φ p.1+lH D φ
theorem X2 (p:List Int × Rat) (D:F7) (φ:List Int->Rat):lH (p::D) φ=p.2*φ p.1+lH D φ:=rfl
theorem wb (k:List Int) (x:Rat) (φ:List Int->Rat):∀D:F7,lH (bw D k x) φ=lH D φ+x*φ k
 | []=>by show x*φ k+0=0+x*φ k;grind
 | p::D=>by
  unfold bw
  split
  ·rename_i e
   rw[X2,X2]
   show (p.2+x)*φ p.1+_=_
   rw[e];grind
  ·rw[X2,X2,wb k x φ D];grind
theorem AN {φ:List Int->Rat}{T T':F7} (h:T.Perm T'):lH T φ=lH T' φ:=by
 induction h with
 | nil=>rfl
 | cons p _ ih=>rw[X2,X2,ih]
 | swap p q l=>rw[X2,X2,X2,X2];grind
 | trans _ _ h1 h2=>rw[h1,h2]
theorem gn {k:List Int}{x:Rat}:∀{D:F7}{p:List Int × Rat},p∈bw D k x->p.1=k ∨ ∃q∈D,q.1=p.1
 | [],p,h=>by
  unfold bw at h
  rw[List.mem_singleton.mp h];exact .inl rfl
 | q::D,p,h=>by
  unfold bw at h
  split at h
  ·rcases List.mem_cons.mp h with z|z
   ·subst z;exact .inr ⟨q,j8,rfl⟩
   ·exact .inr ⟨p,j9 _ z,rfl⟩
  ·rcases List.mem_cons.mp h with z|z
   ·subst z;exact .inr ⟨_,j8,rfl⟩
   ·rcases gn z with y|⟨r,hr,e⟩
    ·exact .inl y
    ·exact .inr ⟨r,j9 _ hr,e⟩
theorem wc (k:List Int) (x:Rat):∀D:F7,(bw D k x).length<=D.length+1
 | []=>by unfold bw;simp
 | p::D=>by
  unfold bw
  split
  ·simp
  ·have:=wc k x D
   rw[A8,A8];lia
noncomputable def fq (D:F7):Prop:=(D.map (·.1)).Nodup
theorem zD {k:List Int}{x:Rat}:∀{D:F7},fq D->fq (bw D k x)
 | [],_=>by unfold bw fq;simp
 | p::D,h=>by
  unfold fq at h
  rw[B7,S4] at h
  unfold bw
  split
  ·unfold fq;rw[B7,S4];exact h
  ·rename_i e
   unfold fq;rw[B7,S4]
   refine ⟨fun z=>?_,zD h.2⟩
   obtain ⟨q,hq,eq⟩:=List.mem_map.mp z
   rcases gn hq with y|⟨r,hr,er⟩
   ·exact e (by rw[<- eq,y])
   ·exact h.1 (List.mem_map.mpr ⟨r,hr,by rw[er,eq]⟩)
noncomputable def rn (H:Hp) (x:Rat) (v:V):Prop:=∃q,v=.ref q/\H q=some (.tup ((fr x).map V.int))
variable {x:Rat}
theorem rn.same {H H':Hp}{v:V} (h:∀a xs,H a=some (.tup xs)->H' a=some (.tup xs)):rn H x v->rn H' x v:=fun ⟨q,e,a⟩=>⟨q,e,h _ _ a⟩
theorem Aa {k:List Int}{x:Rat}:∀(D:F7),¬ k∈D.map (·.1)->bw D k x=D++[(k,x)]
 | [],_=>rfl
 | p::D,h=>by
  rw[B7,B6,not_or] at h
  unfold bw
  rw[if_neg (J9 h.1),Aa D h.2];rfl
theorem tj {k:List Int}:∀(D:F7),¬ k∈D.map (·.1)->iM D k=0
 | [],_=>rfl
 | p::D,h=>by
  rw[B7,B6,not_or] at h
  unfold iM
  rw[if_neg (J9 h.1),tj D h.2]
noncomputable def Q6 (x:Rat) (s:Int):List (Int × List Int)->F7->F7
 | [],D=>D
 | b::bs,D=>Q6 x s bs (bw D b.2 (x*cut b.1 s))
theorem kA (x:Rat) (s:Int) (b:Int × List Int):∀(bs:List (Int × List Int)) (D:F7),Q6 x s (bs++[b]) D=bw (Q6 x s bs D) b.2 (x*cut b.1 s)
 | [],D=>rfl
 | c::bs,D=>by
  show Q6 x s (bs++[b]) (bw D c.2 (x*cut c.1 s))=_
  rw[kA x s b bs];rfl
theorem rT (x:Rat) (s:Int) (φ:List Int->Rat):∀(bs:List (Int × List Int)) (D:F7),lH (Q6 x s bs D) φ=lH D φ+x*dC (bs.map fun b=>cut b.1 s*φ b.2)
 | [],D=>by show _=_+x*0;unfold Q6;grind
 | b::bs,D=>by
  unfold Q6
  rw[rT x s φ bs,wb,B7]
  show _=_+x*(cut b.1 s*φ b.2+dC _)
  grind
structure Vq (N B:Nat) (x:Rat):Prop where
 nn:0<=x
 le:x<=(B:Rat)
 dv:∃z:Int,x*(N:Rat)=(z:Rat)
variable {N B C:Nat}
theorem Vq.mono (h:Vq N B x) (l:B<=C):Vq N C x:=⟨h.nn,by
 have:((B:Nat):Rat)<=((C:Nat):Rat):=by exact_mod_cast l
 have:=h.le
 grind,h.dv⟩
theorem Vq.zero (N B:Nat):Vq N B 0:=⟨by grind,by exact_mod_cast u9 B,0,by grind⟩
variable {y:Rat}
theorem Vq.add (h:Vq N B x) (k:Vq N C y):Vq N (B+C) (x+y):=by
 obtain ⟨z,hz⟩:=h.dv
 obtain ⟨t,ht⟩:=k.dv
 have h1:=h.nn;have h2:=h.le;have k1:=k.nn;have k2:=k.le
 refine ⟨by grind,?_,z+t,?_⟩
 ·have:((B+C:Nat):Rat)=(B:Rat)+(C:Rat):=by push_cast;rfl
  grind
 ·have:((z+t:Int):Rat)=(z:Rat)+(t:Rat):=by push_cast;rfl
  grind
theorem Vq.mul {M:Nat}(h:Vq N B x) (k:Vq M C y):Vq (N*M) (B*C) (x*y):=by
 obtain ⟨z,hz⟩:=h.dv
 obtain ⟨t,ht⟩:=k.dv
 have h1:=h.nn;have h2:=h.le;have k1:=k.nn;have k2:=k.le
 have hB:(0:Rat)<=(B:Rat):=by grind
 refine ⟨Jy h1 k1,?_,z*t,?_⟩
 ·have e:((B*C:Nat):Rat)=(B:Rat)*(C:Rat):=by push_cast;rfl
  rw[e]
  have a1:=qO h2 k1
  have a2:=Rat.mul_le_mul_of_nonneg_left k2 hB
  grind
 ·have e1:((N*M:Nat):Rat)=(N:Rat)*(M:Rat):=by push_cast;rfl
  have e2:((z*t:Int):Rat)=(z:Rat)*(t:Rat):=by push_cast;rfl
  rw[e1,e2,<- hz,<- ht];grind
theorem Vq.one (N:Nat):Vq N 1 1:=⟨by grind,by grind,N,by
 have:((N:Int):Rat)=(N:Rat):=by norm_cast
 grind⟩
noncomputable def LL:Nat:=(R0 200).foldl (fun a i=>Nat.lcm a (i+1)) 1
theorem II {s:Nat} (h0:0<s) (h:s<=200):∃q,LL=s*q:=by
 have h1:(R0 201).all (fun s=>s == 0 || LL % s == 0)=true:=by decide +kernel
 have h2:=List.all_eq_true.mp h1 s (List.mem_range.mpr (by lia))
 have h3:LL % s=0:=by
  have:(s == 0)=false:=by simp;lia
  rw[this,Bool.false_or] at h2
  exact beq_iff_eq.mp h2
 exact ⟨LL / s,(Nat.mul_div_cancel' (Nat.dvd_of_mod_eq_zero h3)).symm⟩
theorem wM:LL<=2 ^ 300:=by decide +kernel
theorem qv:0<LL:=by decide +kernel
variable {s:Int}
theorem lP {t:Int} (hs:0<s):cut t s*(s:Rat)=(t:Rat):=by
 unfold cut
 have e:(((s.toNat:Nat):Int):Rat)=(s:Rat):=by congr 1;lia
 rw[Rat.mkRat_eq_div,<- e]
 have h:((s.toNat:Nat):Rat)≠0:=by
  intro z
  have:s.toNat=0:=by exact_mod_cast z
  lia
 have e2:(((s.toNat:Nat):Int):Rat)=((s.toNat:Nat):Rat):=by norm_cast
 rw[e2]
 exact Rat.div_mul_cancel h
theorem jx {s:Rat} (hs:0<s) (h:x*s<=y*s):x<=y:=Rat.le_of_mul_le_mul_right h hs
theorem AC {s:Rat} (hs:0<s) (h:x*s=y*s):x=y:=by
 have h1:=jx hs (show x*s<=y*s by grind)
 have h2:=jx hs (show y*s<=x*s by grind)
 grind
theorem wD (hs:0<s):(0:Rat)<(s:Rat):=by exact_mod_cast hs
theorem uA {t:Int} (h0:0<=t) (h1:t<=s) (hs:0<s) (h2:s<=200):Vq LL 1 (cut t s):=by
 have hm:=lP (t:=t) hs
 have hp:=wD hs
 obtain ⟨q,hq⟩:=II (s:=s.toNat) (by lia) (by lia)
 refine ⟨jx hp ?_,jx hp ?_,t*q,?_⟩
 ·rw[hm]
  have:(0:Rat)<=(t:Rat):=by exact_mod_cast h0
  grind
 ·rw[hm]
  have:(t:Rat)<=(s:Rat):=by exact_mod_cast h1
  have e:((1:Nat):Rat)=1:=rfl
  rw[e];grind
 ·rw[hq]
  have e1:((s.toNat*q:Nat):Rat)=((s.toNat:Nat):Rat)*(q:Rat):=by push_cast;rfl
  have e2:((s.toNat:Nat):Rat)=(s:Rat):=by
   have:(((s.toNat:Nat):Int):Rat)=(s:Rat):=by congr 1;lia
   rw[<- this];norm_cast
  have e3:((t*(q:Int):Int):Rat)=(t:Rat)*(q:Rat):=by push_cast;rfl
  rw[e1,e2,e3,<- hm];grind
variable {n:Nat}
theorem Vq.bd (h:Vq N B x) (h0:0<N) (h1:N*B<=2 ^ n) (h2:N<=2 ^ n):Bd n x:=by
 obtain ⟨z,hz⟩:=h.dv
 have hp:(0:Int)<(N:Int):=by lia
 have hm:=lP (t:=z) hp
 have e:(((N:Nat):Int):Rat)=(N:Rat):=by norm_cast
 rw[e] at hm
 have hq:(0:Rat)<(N:Rat):=by rw[<- e];exact wD hp
 have ex:x=cut z N:=AC hq (by rw[hz,hm])
 have l0:(0:Rat)<=(z:Rat):=by rw[<- hz];exact Jy h.nn (by grind)
 have l1:(z:Rat)<=((B*N:Nat):Rat):=by
  have e2:((B*N:Nat):Rat)=(B:Rat)*(N:Rat):=by push_cast;rfl
  rw[<- hz,e2]
  exact qO h.le (by grind)
 have m0:0<=z:=by exact_mod_cast l0
 have m1:z<=((B*N:Nat):Int):=by exact_mod_cast l1
 rw[ex]
 rw[Nat.mul_comm] at h1
 exact Bd.cut hp (by lia) (by lia)
theorem Dy:∀{l:List Int},(∀x∈l,0<=x)->∀x∈l,x<=l.sum
 | [],_,x,h=>by simp at h
 | a::l,h,x,hx=>by
  have h1:=h a j8
  have h2:=fe fun y hy=>h y (j9 _ hy)
  rw[Y9]
  rcases List.mem_cons.mp hx with e|e
  ·lia
  ·have:=Dy (fun y hy=>h y (j9 _ hy)) x e
   lia
variable {m:Nat}{u:List Int}
theorem aL (h:aq n m u) (k:Nat):u.getD k 0<=u.sum:=by
 rw[E2]
 cases e:u[k]? with
 | none=>have:=h.pos;show (0:Int)<=_;lia
 | some x=>exact Dy (fun x hx=>(h.nn x hx).1) x (C5 e)
theorem lh (h:aq n m u) (n4:n<=4) (hm:m<=50):u.sum<=200:=by
 have:=Mt.sum_le (m:=50) (l:=u) fun x hx=>by have:=(h.nn x hx).2;lia
 rw[h.len] at this
 lia
theorem vw (h:aq n m u) (n4:n<=4) (hm:m<=50) (k:Nat):Vq LL 1 (cj u k):=uA (h.getD k).1 (aL h k) h.pos (lh h n4 hm)
noncomputable def bU (N B:Nat) (D:F7):Prop:=∀p∈D,Vq N B p.2
theorem bU.add {N B C:Nat}{k:List Int}{x:Rat} (hx:Vq N C x):∀{D:F7},bU N B D->bU N (B+C) (bw D k x)
 | [],_=>fun p hp=>by
  unfold bw at hp
  rw[List.mem_singleton.mp hp]
  exact hx.mono (by lia)
 | q::D,h=>fun p hp=>by
  unfold bw at hp
  split at hp
  ·rcases List.mem_cons.mp hp with z|z
   ·rw[z];exact (h q j8).add hx
   ·exact (h p (j9 _ z)).mono (by lia)
  ·rcases List.mem_cons.mp hp with z|z
   ·rw[z];exact (h q j8).mono (by lia)
   ·exact bU.add hx (fun r hr=>h r (j9 _ hr)) p z
theorem bU.val {N B:Nat}{k:List Int}:∀{D:F7},bU N B D->Vq N B (iM D k)
 | [],_=>Vq.zero N B
 | q::D,h=>by
  unfold iM
  split
  ·exact h q j8
  ·exact bU.val fun r hr=>h r (j9 _ hr)
theorem bU.mono {N B C:Nat}{D:F7} (h:bU N B D) (l:B<=C):bU N C D:=fun p hp=>(h p hp).mono l
noncomputable def Li (n m:Nat) (D:F7):Prop:=∀p∈D,aq n m p.1
theorem uH (k:Nat):LL ^ k<=2 ^ (300*k):=by
 rw[Nat.pow_mul];exact Nat.pow_le_pow_left wM k
theorem lW (k:Nat):0<LL ^ k:=Nat.pow_pos qv
noncomputable def mh (H:Hp):List Rat->List V->Prop
 | [],[]=>True
 | x::xs,v::vs=>rn H x v/\mh H xs vs
 | _,_=>False
theorem mh.mono {H H':Hp} (h:∀a xs,H a=some (.tup xs)->H' a=some (.tup xs)):∀{xs:List Rat}{vs:List V},mh H xs vs->mh H' xs vs
 | [],[],_=>trivial
 | _::_,_::_,⟨a,b⟩=>⟨a.same h,mh.mono h b⟩
 | [],_::_,h'=>h'.elim
 | _::_,[],h'=>h'.elim
theorem mh.snoc {H:Hp}{x:Rat}{v:V} (hv:rn H x v):∀{xs:List Rat}{vs:List V},mh H xs vs->mh H (xs++[x]) (vs++[v])
 | [],[],_=>⟨hv,trivial⟩
 | _::_,_::_,⟨a,b⟩=>⟨a,mh.snoc hv b⟩
 | [],_::_,h'=>h'.elim
 | _::_,[],h'=>h'.elim
theorem mh.len {H:Hp}:∀{xs:List Rat}{vs:List V},mh H xs vs->vs.length=xs.length
 | [],[],_=>rfl
 | _::_,_::_,⟨_,b⟩=>by rw[A8,A8,mh.len b]
 | [],_::_,h'=>h'.elim
 | _::_,[],h'=>h'.elim
theorem mh.get {H:Hp}:∀{xs:List Rat}{vs:List V}{i:Nat}{v:V},mh H xs vs->vs[i]?=some v->∃x,xs[i]?=some x/\rn H x v
 | x::_,_::_,0,_,⟨a,_⟩,h=>by cases h;exact ⟨x,rfl,a⟩
 | _::_,_::_,i+1,_,⟨_,b⟩,h=>mh.get (i:=i) b (by simpa using h)
 | [],[],_,_,_,h=>by simp at h
 | [],_::_,_,_,h',_=>h'.elim
 | _::_,[],_,_,h',_=>h'.elim
theorem tu {N B:Nat}:∀{xs:List Rat},(∀x∈xs,Vq N B x)->Vq N (B*xs.length) (dC xs)
 | [],_=>Vq.zero N _
 | x::xs,h=>by
  have h1:=tu fun y hy=>h y (j9 _ hy)
  have h2:=(h x j8).add h1
  exact h2.mono (by rw[A8,V5];lia)
theorem rG (xs:List Rat) (x:Rat):dC (xs++[x])=dC xs+x:=by
 rw[nH];show _+(x+0)=_;grind
end Mq
namespace G
open PySem PySem.Spec PyProof.Rows L2 Mt Md Mq
structure Ct2 (mg:Str->Option b9):Prop where
 stand:∃t,mg "MOST_STAND_DRAWS"=some (.int 6 t)
structure LK (mg:Str->Option b9):Prop where
 enumerate:mg "enumerate"=none
 sorted:mg "sorted"=none
theorem JS {k:Int} (h1:1<=k) (h4:k<=4):Sm k:=by
 have h:k=1 ∨ k=2 ∨ k=3 ∨ k=4:=by lia
 rcases h with rfl|rfl|rfl|rfl <;> (unfold Sm;decide +kernel)
theorem eK {m:Int}{d:B0} (h:dB m d=true):∃ns:List Int,d=DI ns/\1<=ns.length/\ns.length<=4/\(∀x∈ns,0<=x/\x<=m)/\0<ns.sum:=by
 unfold dB at h
 rw[A6,A6,A6] at h
 obtain ⟨hw,⟨h1,h4⟩,hs⟩:=h
 obtain ⟨ns,e,hn⟩:=ej hw
 subst e
 rw[U5] at h1 h4
 rw[oq] at hs
 have h1':=of_decide_eq_true h1
 have h4':=of_decide_eq_true h4
 exact ⟨ns,rfl,by lia,by lia,hn,of_decide_eq_true hs⟩
variable {n:Nat}
theorem Y4 {i:Int}(h:i.natAbs<=2 ^ n) (hn:n<=100000):B8 i<=2 ^ 20:=by
 unfold B8
 split
 ·exact u9 _
 ·rename_i hz
  have hz':i.natAbs≠0:=fun e=>hz (by rw[beq_iff_eq];lia)
  have h2:i.natAbs.log2<n+1:=(eW hz').mpr (F2 h (Y6 (by decide) (by lia)))
  lia
theorem yt {i:Int}(h0:0<i) (h:i.natAbs<=2 ^ n) (hn:n<8999):i.natAbs.log2<9000:=by
 rw[eW (by lia)]
 exact F2 h (Y6 (by decide) (by lia))
theorem wq {x y:Int} (hx:0<=x) (hy:0<y):U9 y (x % y)=U9 x y:=by
 have h1:(x % y).natAbs=x.natAbs % y.natAbs:=by
  rw[Int.natAbs_emod_of_nonneg hx]
 unfold U9
 rw[h1,Mc x.natAbs,Nat.gcd_rec y.natAbs x.natAbs,Mc]
theorem Io {t b:Int} (ht:0<=t) (hb:0<b):0<=(cut t b).num:=by
 rw[uB hb];exact IZ ht (by lia)
theorem vz {m:Nat}{ns:List Int} (h:aq n m ns) (k:Nat):0<=Mt.cj ns k:=Rat.num_nonneg.mp (Io (h.getD k).1 h.pos)
theorem aq.sum_le {n m:Nat}{ns:List Int} (h:Mt.aq n m ns) (hn:n<=4):ns.sum<=(m:Int)*4:=by
 have:=Mt.sum_le (m:=(m:Int)) (l:=ns) fun x hx=>(h.nn x hx).2
 rw[h.len] at this
 refine F8 this (Int.mul_le_mul_of_nonneg_left (by lia) (by lia))
theorem vA {m:Nat}{ns:List Int} (h:Mt.aq n m ns) (hn:n<=4) (hm:m<=1000) (k:Nat):Bd 12 (Mt.cj ns k):=by
 have h1:=h.getD k
 have h2:=aq.sum_le h hn
 have h3:=h.pos
 refine Bd.cut h.pos ?_ ?_
 ·show _<=4096;lia
 ·show _<=4096;lia
theorem xQ {k:Int}{d:B0} (h:fi k d=true):∃(rs:List (List Int)) (n:Nat),d=DR rs/\k=n/\Mt.lU n 5 rs:=by
 cases d with
 | tuple ds =>
  have h':(decide ((ds.length:Int)=k)&&ds.all (fun r=>O6 0 5 r&&decide ((aE r:Int)=k)))=true:=h
  rw[A6] at h'
  obtain ⟨h1,h2⟩:=h'
  have h1':=of_decide_eq_true h1
  have:∀(es:List B0),es.all (fun r=>O6 0 5 r&&decide ((aE r:Int)=k))=true->∃rs:List (List Int),es=rs.map DI/\∀r∈rs,(r.length:Int)=k/\∀x∈r,0<=x/\x<=5:=by
   intro es
   induction es with
   | nil=>exact fun _=>⟨[],rfl,by simp⟩
   | cons e es ih =>
    intro ha
    rw[wY,A6,A6] at ha
    obtain ⟨⟨hw,hl⟩,hr⟩:=ha
    obtain ⟨rs,e1,e2⟩:=ih hr
    obtain ⟨ns,e3,hn⟩:=ej hw
    subst e3
    rw[U5] at hl
    refine ⟨ns::rs,by rw[e1];rfl,fun r hr'=>?_⟩
    rcases List.mem_cons.mp hr' with z|z
    ·subst z;exact ⟨of_decide_eq_true hl,hn⟩
    ·exact e2 r z
  obtain ⟨rs,e1,e2⟩:=this ds h2
  refine ⟨rs,ds.length,by rw[e1],h1'.symm,⟨by rw[e1,d6],fun r hr=>⟨?_,fun x hx=>?_⟩⟩⟩
  ·have:=(e2 r hr).1;lia
  ·have:=(e2 r hr).2 x hx;lia
 | _=>cases (show false=true from h)
mutual
theorem IL {l T:Addr}{H:Hp}{ps:List (List jt × V)} (hT:H T=some (.dT ps)):∀{d:B0}{v:V},Dt l H d v->Dt T H d v
 | .none,_,h=>by unfold Dt at h ⊢;exact h
 | .bool _,_,h=>by unfold Dt at h ⊢;exact h
 | .int _,_,h=>by unfold Dt at h ⊢;exact h
 | .str _,_,h=>by unfold Dt at h ⊢;exact h
 | .tuple ds,_,h=>by
  unfold Dt at h ⊢
  obtain ⟨a,xs,e,n,q,r⟩:=h
  exact ⟨a,xs,e,(fun z=>by rw[z,hT] at q;cases q),q,uJ hT r⟩
 | .list ds,_,h=>by
  unfold Dt at h ⊢
  obtain ⟨a,xs,e,n,q,r⟩:=h
  exact ⟨a,xs,e,(fun z=>by rw[z,hT] at q;cases q),q,uJ hT r⟩
 | .dict kvs,_,h=>by
  unfold Dt at h ⊢
  obtain ⟨z,a,e,n,q⟩:=h
  exact ⟨z,a,e,(fun z=>by rw[z,hT] at q;cases q),q⟩
theorem uJ {l T:Addr}{H:Hp}{ps:List (List jt × V)} (hT:H T=some (.dT ps)):∀{ds:List B0}{xs:List V},S3 l H ds xs->S3 T H ds xs
 | [],_,h=>by unfold S3 at h ⊢;exact h
 | d::ds,_,h=>by
  unfold S3 at h ⊢
  obtain ⟨x,r,e,q1,q2⟩:=h
  exact ⟨x,r,e,IL hT q1,uJ hT q2⟩
end
theorem sm_0:Sm 0:=by unfold Sm;decide +kernel
theorem jw (h:n<=10000):n<i6:=by rw[aP];lia
section
variable {P:j6}{w:r9}{K:m9}{mg:Str->Option b9}{base:Heap}{f:Addr}{fd:D6}{ec:Nat->Addr}{Bs:Addr}
noncomputable def iX (ec:Nat->Addr):Sp:=fun vs H Q E=>∃(v:V) (st:Addr) (d:B0),vs=[v]/\Dt st H d v/\bN d/\(dB 20 d=true->∀H',i7 H H'->Q .non H')/\(dB 20 d=false->∀H',i7 H H'->E (.ref (ec 0)) none H')
noncomputable abbrev km:Stmt:=fE 29
theorem vC:D9 ["thing"] ["thing"] (A1 km):=⟨rfl,rfl,rfl,by decide +kernel,rfl,by decide +kernel,by decide +kernel⟩
theorem vR (F:bT K "need_urn" "need_urn" km f fd) (R:yO K mg ec Bs) (c1:V4 P w K mg base 4 "is_urn" ["thing"] eO):N0 P w K mg base (kT P w) 5 f fd ["thing"] (iX ec):=by
 refine F.okX vC (fun vs H Q E h=>?_) (fun cdv A outer s H vs Q E hr h=>?_)
 ·obtain ⟨v,st,d,rfl,_⟩:=h
  rfl
 obtain ⟨v,st,d,rfl,hd,hs,q1,q2⟩:=h
 refine ⟨_,t6 (V6 (bo (ar (B9 c1 hr rfl (b7 (pv 0) d8)))) (t6 (jy R.e0 (R.xc 0 (by decide)) jh (fun σ H Q Q' m q=>m _ _ q))) K9),?_⟩
 refine ⟨_,rfl,v,st,d,rfl,hd,hs,fun H1 g1=>⟨_,rfl,?_⟩⟩
 cases hw:dB 20 d with
 | true=>exact W3 (q1 hw H1 g1)
 | false=>exact V0 (q2 hw H1 g1)
noncomputable def gW (ec:Nat->Addr):Sp:=fun vs H Q E=>∃(v:V) (st:Addr) (d:B0) (k:Int),vs=[.int k,v]/\1<=k/\k<=4/\Dt st H d v/\Bx d/\(fi k d=true->∀H',i7 H H'->Q .non H')/\(fi k d=false->∀H',i7 H H'->E (.ref (ec 1)) none H')
noncomputable abbrev jc:Stmt:=fE 30
theorem tI:D9 ["kinds","thing"] ["kinds","thing"] (A1 jc):=⟨rfl,rfl,rfl,by decide +kernel,rfl,by decide +kernel,by decide +kernel⟩
theorem uf (F:bT K "need_rule" "need_rule" jc f fd) (R:yO K mg ec Bs) (c1:fU P w K mg base 3 "is_rule" ["kinds","thing"] (kh ec)):N0 P w K mg base (kT P w) 4 f fd ["kinds","thing"] (gW ec):=by
 refine F.okX tI (fun vs H Q E h=>?_) (fun cdv A outer s H vs Q E hr h=>?_)
 ·obtain ⟨v,st,d,k,rfl,_⟩:=h
  rfl
 obtain ⟨v,st,d,k,rfl,k1,k4,hd,ok,q1,q2⟩:=h
 refine ⟨_,t6 (V6 (bo (ar (cm c1 hr rfl fJ (b7 (pv 0) (b7 (pv 1) d8))))) (t6 (jy R.e1 (R.xc 1 (by decide)) (zu (tX (xW (pv 0) (tX CP)))) (fun σ H Q Q' m q=>?_))) K9),?_⟩
 ·obtain ⟨v1,z1,i1,z2,z3,z4,z5⟩:=q
  exact ⟨v1,z1,i1,z2,z3,z4,fun z=>m _ _ (z5 z)⟩
 refine ⟨_,rfl,_,rfl,.int k,v,st,.int k,d,rfl,Dt.int _ _ _,(fun hw=>?_),fun k' e _ _=>?_⟩
 ·have hw':(decide ((1:Int)<=k)&&decide (k<=4))=false:=hw
  rw[decide_eq_true k1,decide_eq_true k4] at hw'
  cases hw'
 cases e
 refine ⟨hd,ok.1,ok.2,fun H1 g1=>⟨_,rfl,?_⟩⟩
 cases hw:fi k d with
 | true=>exact W3 (q1 hw H1 g1)
 | false=>exact V0 ⟨_,rfl,k,rfl,(JS k1 k4).1,(JS k1 k4).2,fun z=>q2 hw H1 g1⟩
noncomputable def Cq:Sp:=fun vs H Q _=>∃x y:Int,vs=[.int x,.int y]/\0<=x/\0<=y/\Q (.int (U9 x y:Nat)) H
noncomputable abbrev Hk:Stmt:=fE 17
theorem Gc:D9 ["one","other"] ["one","other"] (A1 Hk):=⟨rfl,rfl,rfl,by decide +kernel,rfl,by decide +kernel,by decide +kernel⟩
theorem KB (F:bT K "greatest_divisor" "greatest_divisor" Hk f fd) (B:Bt mg):N0 P w K mg base dI 1 f fd ["one","other"] Cq:=by
 refine F.ok Gc (fun vs H Q E h=>?_) (fun cdv A outer s H vs Q E hr h=>?_)
 ·obtain ⟨x,y,rfl,_⟩:=h
  rfl
 obtain ⟨x,y,rfl,hx,hy,q⟩:=h
 refine ⟨_,m7 (vM J7 (R7 jU (pv 1) j0 (O8 _)) (t6 (kB (i:=0) (j:=1) rfl Gc.nd rfl rfl (by decide) rfl rfl (b7 (pv 1) (b7 (D5 dS (pv 0) (pv 1)) d8)) rfl)))
  (t6 (D7 (u5 wF rfl B.abs boot_abs (b7 (pv 0) d8)))),?_⟩
 refine ⟨fun m σ H2=>H2=H/\∃x' y':Int,0<=x'/\0<=y'/\σ=[some (.int x'),some (.int y')]/\m=y'.toNat/\U9 x' y'=U9 x y,⟨_,rfl,x,y,hx,hy,rfl,rfl,rfl⟩,?_⟩
 rintro m σ H2 ⟨rfl,x',y',h1,h2,rfl,rfl,e⟩
 refine ⟨_,rfl,rfl,_,rfl,?_⟩
 by_cases hz:y'=0
 ·subst hz
  rw[decide_eq_true rfl]
  refine W3 ⟨_,rfl,x',rfl,?_⟩
  have e2:(if x'<0 then -x' else x')=((U9 x y:Nat):Int):=by
   rw[<- e,EI]
   split <;> lia
  rw[e2];exact q
 ·rw[decide_eq_false (show ¬ V.int y'=V.int 0 from fun z=>hz (by injection z))]
  refine V0 ⟨fun σ' H'=>H'=H2/\∃a b:Int,0<=a/\0<=b/\σ'=[some (.int a),some (.int b)]/\b.toNat<y'.toNat/\U9 a b=U9 x y,?_,?_⟩
  ·rintro σ' H' ⟨rfl,a,b,ha,hb,rfl,hlt,e2⟩
   exact ⟨_,hlt,rfl,a,b,ha,hb,rfl,rfl,e2⟩
  ·have hm:=cB x' (show y'≠0 from hz)
   have hm2:=aD x' (show 0<y' by lia)
   refine ⟨_,rfl,_,rfl,_,rfl,_,_,rfl,rfl,(by lia),_,_,rfl,?_⟩
   exact ⟨rfl,y',x' % y',h2,hm,rfl,by lia,by rw[wq h1 (by lia)];exact e⟩
noncomputable def dE:Sp:=fun vs H Q _=>∃t b:Int,vs=[.int t,.int b]/\0<=t/\0<b/\b.natAbs.log2<9000/\∀p H',i7 H H'->H' p=some (.tup ((fr (cut t b)).map V.int))->Q (.ref p) H'
noncomputable abbrev kr:Stmt:=fE 18
theorem nJ:D9 ["top","bottom","divisor"] ["top","bottom"] (A1 kr):=⟨rfl,rfl,rfl,by decide +kernel,rfl,by decide +kernel,by decide +kernel⟩
theorem zK {t b:Int} (hb:0<b) (h:b.natAbs.log2<9000):0<((U9 t b:Nat):Int)/\((U9 t b:Nat):Int).natAbs.log2<9000:=by
 have h0:0<U9 t b:=Int.gcd_pos_of_ne_zero_right _ (by lia)
 refine ⟨by lia,?_⟩
 rw[Q3]
 have l:U9 t b<=b.natAbs:=Nat.le_of_dvd (by lia) (Nat.gcd_dvd_right _ _)
 rw[eW (by lia)] at h ⊢
 lia
theorem vU (F:bT K "fraction" "fraction" kr f fd) (c1:V4 P w K mg base 1 "greatest_divisor" ["one","other"] Cq):N0 P w K mg base dI 2 f fd ["top","bottom"] dE:=by
 refine F.ok nJ (fun vs H Q E h=>?_) (fun cdv A outer s H vs Q E hr h=>?_)
 ·obtain ⟨x,y,rfl,_⟩:=h
  rfl
 obtain ⟨t,b,rfl,ht,hb,hlog,q⟩:=h
 refine ⟨_,m7 (F9 (i:=2) nJ.nd rfl (A2 rfl) (B9 c1 hr rfl (b7 (pv 0) (b7 (pv 1) d8))))
  (t6 (D7 (D3 (b7 (D5 lC (pv 0) (pv 2)) (b7 (D5 lC (pv 1) (pv 2)) d8))))),?_⟩
 have g:=zK (t:=t) hb hlog
 refine ⟨_,rfl,_,rfl,t,b,rfl,ht,by lia,?_⟩
 refine ⟨_,rfl,_,rfl,_,_,rfl,rfl,g,_,rfl,_,rfl,_,_,rfl,rfl,g,(by show 2<=i6;decide),fun p hp=>?_⟩
 refine q p _ (i7.new hp) ?_
 rw[f7,DH hb];rfl
noncomputable def dD:Sp:=fun vs H Q _=>∃(p q:Addr) (x y:Rat) (n m:Nat),vs=[.ref p,.ref q]/\H p=some (.tup ((fr x).map V.int))/\H q=some (.tup ((fr y).map V.int))/\0<=x.num/\0<=y.num/\Bd n x/\Bd m y/\n+m<=8000 /\
 ∀r H',i7 H H'->H' r=some (.tup ((fr (x*y)).map V.int))->Q (.ref r) H'
noncomputable abbrev tP:Stmt:=fE 20
theorem Cy:D9 ["one","other"] ["one","other"] (A1 tP):=⟨rfl,rfl,rfl,by decide +kernel,rfl,by decide +kernel,by decide +kernel⟩
theorem Df (F:bT K "times" "times" tP f fd) (c1:V4 P w K mg base 2 "fraction" ["top","bottom"] dE):N0 P w K mg base dI 3 f fd ["one","other"] dD:=by
 refine F.ok Cy (fun vs H Q E h=>?_) (fun cdv A outer s H vs Q E hr h=>?_)
 ·obtain ⟨p,q,x,y,n,m,rfl,_⟩:=h
  rfl
 obtain ⟨p,q,x,y,n,m,rfl,hp,hq,x0,y0,bx,by',hnm,k⟩:=h
 refine ⟨_,t6 (D7 (B9 c1 hr rfl (b7 (D5 dh (G4 L7 (pv 0) j0 (fun _ _=>rfl)) (G4 L7 (pv 1) j0 (fun _ _=>rfl))) (b7 (D5 dh (G4 L7 (pv 0) j0 (fun _ _=>rfl)) (G4 L7 (pv 1) j0 (fun _ _=>rfl))) d8)))),?_⟩
 have hp':H p=some (.tup [.int x.num,.int x.den]):=hp
 have hq':H q=some (.tup [.int y.num,.int y.den]):=hq
 have b1:B8 x.num<=2 ^ 20:=Y4 bx.num (by lia)
 have b2:B8 y.num<=2 ^ 20:=Y4 by'.num (by lia)
 have b3:B8 (x.den:Int)<=2 ^ 20:=Y4 (by rw[Q3];exact bx.den) (by lia)
 have b4:B8 (y.den:Int)<=2 ^ 20:=Y4 (by rw[Q3];exact by'.den) (by lia)
 refine ⟨_,rfl,p,_,_,_,rfl,rfl,.of hp',E3 (j:=0) rfl,_,rfl,q,_,_,_,rfl,rfl,.of hq',E3 (j:=0) rfl,_,_,rfl,rfl,⟨b1,b2⟩,
  _,rfl,p,_,_,_,rfl,rfl,.of hp',E3 (j:=1) rfl,_,rfl,q,_,_,_,rfl,rfl,.of hq',E3 (j:=1) rfl,_,_,rfl,rfl,⟨b3,b4⟩,_,_,rfl,dA x0 y0,?_,?_,?_⟩
 ·have h1:=x.den_nz;have h2:=y.den_nz
  have:=cG (U2 h1) (U2 h2)
  rw[<- cA];lia
 ·rw[eW (by have h1:=x.den_nz;have h2:=y.den_nz;rw[ah];exact cz (by lia) (by lia)),ah]
  refine F2 (C7 bx.den by'.den) ?_
  rw[<- K7]
  exact Y6 (by decide) (by lia)
 ·rw[zQ];exact k
noncomputable def fF:Sp:=fun vs H Q _=>∃(p q:Addr) (x y:Rat) (n m:Nat),vs=[.ref p,.ref q]/\H p=some (.tup ((fr x).map V.int))/\H q=some (.tup ((fr y).map V.int))/\0<=x.num/\0<=y.num/\Bd n x/\Bd m y/\n+m<=8000 /\
 ∀r H',i7 H H'->H' r=some (.tup ((fr (x+y)).map V.int))->Q (.ref r) H'
noncomputable abbrev xO:Stmt:=fE 19
theorem EO:D9 ["one","other"] ["one","other"] (A1 xO):=⟨rfl,rfl,rfl,by decide +kernel,rfl,by decide +kernel,by decide +kernel⟩
theorem Fi (F:bT K "plus" "plus" xO f fd) (c1:V4 P w K mg base 2 "fraction" ["top","bottom"] dE):N0 P w K mg base dI 3 f fd ["one","other"] fF:=by
 refine F.ok EO (fun vs H Q E h=>?_) (fun cdv A outer s H vs Q E hr h=>?_)
 ·obtain ⟨p,q,x,y,n,m,rfl,_⟩:=h
  rfl
 obtain ⟨p,q,x,y,n,m,rfl,hp,hq,x0,y0,bx,by',hnm,k⟩:=h
 refine ⟨_,t6 (D7 (B9 c1 hr rfl (b7 (D5 Z5 (D5 dh (G4 L7 (pv 0) j0 (fun _ _=>rfl)) (G4 L7 (pv 1) j0 (fun _ _=>rfl))) (D5 dh (G4 L7 (pv 1) j0 (fun _ _=>rfl)) (G4 L7 (pv 0) j0 (fun _ _=>rfl)))) (b7 (D5 dh (G4 L7 (pv 0) j0 (fun _ _=>rfl)) (G4 L7 (pv 1) j0 (fun _ _=>rfl))) d8)))),?_⟩
 have hp':H p=some (.tup [.int x.num,.int x.den]):=hp
 have hq':H q=some (.tup [.int y.num,.int y.den]):=hq
 have b1:B8 x.num<=2 ^ 20:=Y4 bx.num (by lia)
 have b2:B8 y.num<=2 ^ 20:=Y4 by'.num (by lia)
 have b3:B8 (x.den:Int)<=2 ^ 20:=Y4 (by rw[Q3];exact bx.den) (by lia)
 have b4:B8 (y.den:Int)<=2 ^ 20:=Y4 (by rw[Q3];exact by'.den) (by lia)
 refine ⟨_,rfl,p,_,_,_,rfl,rfl,.of hp',E3 (j:=0) rfl,_,rfl,q,_,_,_,rfl,rfl,.of hq',E3 (j:=1) rfl,_,_,rfl,rfl,⟨b1,b4⟩,
  _,rfl,q,_,_,_,rfl,rfl,.of hq',E3 (j:=0) rfl,_,rfl,p,_,_,_,rfl,rfl,.of hp',E3 (j:=1) rfl,_,_,rfl,rfl,⟨b2,b3⟩,_,_,rfl,rfl,
  _,rfl,p,_,_,_,rfl,rfl,.of hp',E3 (j:=1) rfl,_,rfl,q,_,_,_,rfl,rfl,.of hq',E3 (j:=1) rfl,_,_,rfl,rfl,⟨b3,b4⟩,_,_,rfl,?_,?_,?_,?_⟩
 ·exact JB (dA x0 (by lia)) (dA y0 (by lia))
 ·have h1:=x.den_nz;have h2:=y.den_nz
  have:=cG (U2 h1) (U2 h2)
  rw[<- cA];lia
 ·rw[eW (by have h1:=x.den_nz;have h2:=y.den_nz;rw[ah];exact cz (by lia) (by lia)),ah]
  refine F2 (C7 bx.den by'.den) ?_
  rw[<- K7]
  exact Y6 (by decide) (by lia)
 ·rw[zS];exact k
noncomputable def oY:Sp:=fun vs H Q _=>∃(a:Addr) (ys:List V) (xs:List Rat) (N B n:Nat),vs=[.ref a]/\H a=some (.lst ys)/\mh H xs ys/\(∀x∈xs,Vq N B x)/\0<N/\N*(B*xs.length+B)<=2 ^ n/\N<=2 ^ n/\n<=4000 /\
 ∀r H',i7 H H'->H' r=some (.tup ((fr (dC xs)).map V.int))->Q (.ref r) H'
noncomputable abbrev tN:Stmt:=fE 21
theorem lz:D9 ["fractions","so_far","part"] ["fractions"] (A1 tN):=⟨rfl,rfl,rfl,by decide +kernel,rfl,by decide +kernel,by decide +kernel⟩
theorem De (F:bT K "total" "total" tN f fd) (c1:V4 P w K mg base 3 "plus" ["one","other"] fF):N0 P w K mg base dI 4 f fd ["fractions"] oY:=by
 refine F.ok lz (fun vs H Q E h=>?_) (fun cdv A outer s H vs Q E hr h=>?_)
 ·obtain ⟨a,ys,xs,N,B,n,rfl,_⟩:=h
  rfl
 obtain ⟨a,ys,xs,N,B,n,rfl,ha,hx,hv,h0,h1,h2,hn,q⟩:=h
 refine ⟨_,m7 (F9 (i:=1) lz.nd rfl (A2 rfl) (D3 (b7 j0 (b7 j0 d8))))
  (m7 (cO J7 rfl (dc (pv 0)) (T7 (i:=2) lz.nd rfl (A2 rfl))
   (t6 (F9 (i:=1) lz.nd rfl (A2 rfl) (B9 c1 hr rfl (b7 (pv 1) (b7 (pv 2) d8))))))
  (t6 (D7 (pv 1)))),?_⟩
 refine ⟨(by show 2<=i6;decide),fun c hc=>?_⟩
 have s2:i7 H (n5 H c (.tup [.int 0,.int 1])):=i7.new hc
 refine ⟨_,rfl,a,rfl,⟨_,.of (s2 _ _ ha)⟩,?_⟩
 refine lO (K:=K) (a:=a) (xs:=ys) (fun i σ H2=>i7 H H2/\i<=ys.length/\∃c o,σ=[some (.ref a),some (.ref c),o]/\H2 c=some (.tup ((fr (dC (xs.take i))).map V.int)))
  ⟨s2,u9 _,c,none,rfl,f7⟩ (fun i σ H2 _ h=>.of (h.1 _ _ ha)) (fun i t σ H2 ht h=>?_) (fun σ H2 h=>?_)
 ·obtain ⟨g2,hi,c,o,rfl,hc2⟩:=h
  obtain ⟨x,ex,q',rfl,hq'⟩:=hx.get ht
  have hil:=(List.getElem?_eq_some_iff.mp ex).1
  have v1:Vq N B x:=hv x (C5 ex)
  have v2:Vq N (B*xs.length) (dC (xs.take i)):=(tu fun y hy=>hv y (C9 hy)).mono (L6 _ (by rw[y7];lia))
  have d1:Bd n x:=v1.bd h0 (n6 (L6 _ (fu _ _)) h1) h2
  have d2:Bd n (dC (xs.take i)):=v2.bd h0 (n6 (L6 _ (ag _ _)) h1) h2
  refine ⟨_,rfl,_,rfl,c,q',dC (xs.take i),x,n,n,rfl,hc2,g2 _ _ hq',Rat.num_nonneg.mpr v2.nn,Rat.num_nonneg.mpr v1.nn,d2,d1,by lia,fun r H3 g3 hr3=>⟨g2.trans g3,(List.getElem?_eq_some_iff.mp ht).1,r,_,rfl,?_⟩⟩
  rw[D2,ex]
  show _=some (HO.tup ((fr (dC (xs.take i++[x]))).map V.int))
  rw[rG];exact hr3
 ·obtain ⟨g2,_,c,o,rfl,hc2⟩:=h
  rw[hx.len,D4] at hc2
  exact ⟨_,rfl,q c H2 g2 hc2⟩
noncomputable def lp:Sp:=fun vs H Q _=>∃(a:Addr) (n m:Nat) (ns:List Int) (k:Nat),vs=[.ref a,.int k]/\H a=some (.tup (ns.map V.int))/\Mt.aq n m ns/\n<=4/\m<=1000/\k<n/\∀p H',i7 H H'->H' p=some (.tup ((fr (Mt.cj ns k)).map V.int))->Q (.ref p) H'
noncomputable abbrev tR:Stmt:=fE 31
theorem Cz:D9 ["urn","kind"] ["urn","kind"] (A1 tR):=⟨rfl,rfl,rfl,by decide +kernel,rfl,by decide +kernel,by decide +kernel⟩
theorem Di (F:bT K "share" "share" tR f fd) (B:Bt mg) (c1:V4 P w K mg base 2 "fraction" ["top","bottom"] dE):N0 P w K mg base dI 3 f fd ["urn","kind"] lp:=by
 refine F.ok Cz (fun vs H Q E h=>?_) (fun cdv A outer s H vs Q E hr h=>?_)
 ·obtain ⟨a,n,m,ns,k,rfl,_⟩:=h
  rfl
 obtain ⟨a,n,m,ns,k,rfl,ha,hu,h4,hm,hk,q⟩:=h
 refine ⟨_,t6 (D7 (B9 c1 hr rfl (b7 (G4 L7 (pv 0) (pv 1) (fun _ _=>rfl)) (b7 (u5 (cu rfl) rfl B.sum Ag (b7 (pv 0) d8)) d8)))),?_⟩
 have h2:=aq.sum_le hu h4
 have h3:=hu.pos
 refine ⟨_,rfl,_,rfl,a,_,_,_,rfl,rfl,.of ha,lS (by rw[hu.len];exact hk),_,rfl,a,ns,rfl,.inr (.of ha),_,_,rfl,(hu.getD k).1,h3,yt (n:=12) h3 (by show _<=4096;lia) (by lia),q⟩
noncomputable def mE:Sp:=fun vs H Q _=>∃(a st:Addr) (v:V) (n j:Nat) (ns:List Int) (rs:List (List Int)) (k:Nat),vs=[.ref a,v,.int k]/\H a=some (.tup (ns.map V.int))/\ns.length=n/\Dt st H (DR rs) v/\Mt.lU n j rs/\n<=4/\k<n /\
 ∀p H',i7 H H'->H' p=some (.tup ((U3 ns (rs.getD k [])).map V.int))->Q (.ref p) H'
noncomputable abbrev pF:Stmt:=fE 32
theorem Az:D9 ["urn","rule","kind"] ["urn","rule","kind"] (A1 pF):=⟨rfl,rfl,rfl,by decide +kernel,rfl,by decide +kernel,by decide +kernel⟩
theorem AG (F:bT K "put_in" "put_in" pF f fd) (B:Bt mg):N0 P w K mg base dI 1 f fd ["urn","rule","kind"] mE:=by
 refine F.ok Az (fun vs H Q E h=>?_) (fun cdv A outer s H vs Q E hr h=>?_)
 ·obtain ⟨a,st,v,n,j,ns,rs,k,rfl,_⟩:=h
  rfl
 obtain ⟨a,st,v,n,j,ns,rs,k,rfl,ha,hn,hd,hru,h4,hk,q⟩:=h
 refine ⟨_,t6 (D7 (G7 L5 rfl B.tuple J6 (b7 (N4 (N:=["balls","more"]) (ix:=[none,none]) (ifs:=[]) (tc:=S1) rfl
   (HM rfl B.zip (b7 (pv 0) (b7 (G4 L7 (pv 1) (pv 2) (fun _ _=>rfl)) d8)))
   (fun s H ex=>qX (K:=K) (n:=2) rfl rfl (G0 (aj (i:=0) (by decide +kernel) rfl (A2 rfl) (.inr rfl)) (G0 (aj (i:=1) (by decide +kernel) rfl (A2 rfl) (.inr rfl)) Z3))) (fun s H ex=>M4)
   (fun s H ex=>D5 Z5 (pv 0) (pv 1)) rfl (by decide +kernel) (by rfl) (by rfl) (fun _=>rfl)) d8))),?_⟩
 obtain ⟨r,xs,b,e,hr2,hx,hb⟩:=yH hd (by rw[hru.len];exact hk)
 subst e
 have hrow:=hru.at hk
 generalize hrw:rs.getD k []=row at *
 refine ⟨_,rfl,_,rfl,_,rfl,r,_,_,_,rfl,rfl,.of hr2,E3 hx,a,b,_,_,rfl,.of ha,.of hb,?_⟩
 have l1:ns.length=row.length:=by rw[hn,hrow.len]
 refine zX (K:=K) (a:=a) (b:=b) (xs:=ns.map V.int) (ys:=row.map V.int) (sz (by rw[d6];lia)) (by rw[d6,d6];exact l1)
  (fun i zs H2=>i7 H H2/\i<=n/\zs=((U3 ns row).take i).map V.int) ⟨i7.refl H,u9 _,rfl⟩ (fun i zs H2 h=>?_) (fun i zs H2 _ h=>⟨.of (h.1 _ _ ha),.of (h.1 _ _ hb)⟩) ⟨rfl,rfl⟩ (fun i zs H2 x y p hx hy hp h=>?_) (fun zs H2 h=>?_)
 ·obtain ⟨_,hil,rfl⟩:=h
  have:(U3 ns row).length=n:=by unfold U3;rw[md,<- l1,hn];lia
  rw[d6,y7,this];lia
 ·obtain ⟨hS,hil,rfl⟩:=h
  have hi:i<ns.length:=by have:=(List.getElem?_eq_some_iff.mp hx).1;rwa [d6] at this
  have hi2:i<row.length:=by lia
  rw[A4,f6 hi] at hx
  rw[A4,f6 hi2] at hy
  cases hx
  cases hy
  refine ⟨_,rfl,_,rfl,_,_,rfl,rfl,hS.trans (i7.new hp),by lia,?_⟩
  have e:(U3 ns row)[i]?=some (ns[i]+row[i]):=by
   unfold U3;rw[jQ,f6 hi,f6 hi2]
  rw[D2,e,A3];rfl
 ·obtain ⟨hS,hil,rfl⟩:=h
  intro p hp
  refine ⟨p,_,rfl,.inl ⟨.of f7,fun l hl=>?_⟩⟩
  refine q l _ ((hS.trans (i7.new hp)).trans (i7.new hl)) ?_
  rw[f7,d6]
  have:(U3 ns row).length=ns.length:=by unfold U3;rw[md,<- l1];lia
  rw[<- this,D4]
noncomputable def kg:Sp:=fun vs H Q _=>∃(a:Addr) (xs:List V),vs=[.ref a]/\H a=some (.tup xs)/\∀p H',i7 H H'->H' p=some (.tup xs)->Q (.ref p) H'
noncomputable abbrev mI:Stmt:=fE 33
theorem xF:D9 ["urn"] ["urn"] (A1 mI):=⟨rfl,rfl,rfl,by decide +kernel,rfl,by decide +kernel,by decide +kernel⟩
theorem ya (F:bT K "own_urn" "own_urn" mI f fd) (B:Bt mg):N0 P w K mg base dI 1 f fd ["urn"] kg:=by
 refine F.ok xF (fun vs H Q E h=>?_) (fun cdv A outer s H vs Q E hr h=>?_)
 ·obtain ⟨a,xs,rfl,_⟩:=h
  rfl
 obtain ⟨a,xs,rfl,ha,q⟩:=h
 refine ⟨_,t6 (D7 (G7 L5 rfl B.tuple J6 (b7 (G7 eF rfl B.list iy (b7 (pv 0) d8)) d8))),?_⟩
 refine ⟨_,rfl,a,_,rfl,.inr (.of ha),fun l hl=>⟨l,_,rfl,.inl ⟨.of f7,fun p hp=>?_⟩⟩⟩
 exact q p _ ((i7.new hl).trans (i7.new hp)) f7
end
end G
namespace G
open L2
theorem fS {A:Prop} (k:∀R:Prop,(A->R)->R):A:=k A id
variable {t:TS}{D:ju}{σ:L2.St}{H:Hp}
theorem nmD (h:∀D':ju,(∀σ H,D.nx σ H->D'.nx σ H)->(∀v H,D.rt v H->D'.rt v H)->t D' σ H):t D σ H:=h D (fun _ _ h=>h) (fun _ _ h=>h)
theorem nmS {u:TS}(h:∀D':ju,(∀σ H,u D σ H->D'.nx σ H)->(∀v H,D.rt v H->D'.rt v H)->t D' σ H):iO t u D σ H:=h { D with nx:=u D } (fun _ _ h=>h) (fun _ _ h=>h)
theorem Jh {i:Nat}{v:V}(h:∀D':ju,(∀σ H,D.nx σ H->D'.nx σ H)->(∀v H,D.rt v H->D'.rt v H)->V7 i v σ H (t D')):V7 i v σ H (fun σ2 H2=>t D σ2 H2):=h D (fun _ _ h=>h) (fun _ _ h=>h)
end G
namespace Mq
open PySem PySem.Spec L2 Mt Md
noncomputable def dd {α:Type} [DecidableEq α]:List α->List α
 | []=>[]
 | a::l=>if a∈dd l then dd l else a::dd l
theorem Dw {α:Type} [DecidableEq α] {x:α}:∀{l:List α},x∈l->x∈dd l
 | a::l,h=>by
  unfold dd
  rcases List.mem_cons.mp h with e|e
  ·subst e
   split
   ·assumption
   ·exact j8
  ·have:=Dw e
   split
   ·exact this
   ·exact j9 _ this
theorem yI {α:Type} [DecidableEq α] {x:α}:∀{l:List α},x∈dd l->x∈l
 | [],h=>h
 | a::l,h=>by
  unfold dd at h
  split at h
  ·exact j9 _ (yI h)
  ·rcases List.mem_cons.mp h with e|e
   ·subst e;exact j8
   ·exact j9 _ (yI e)
theorem Ds {α:Type} [DecidableEq α]:∀{l m:List α},l.Nodup->(∀a∈l,a∈m)->l.length<=m.length
 | [],m,_,_=>u9 _
 | a::l,m,hn,h=>by
  rw[S4] at hn
  have ha:=h a j8
  have ih:=Ds (l:=l) (m:=m.erase a) hn.2 fun b hb=>by
   have:b≠a:=fun e=>hn.1 (e ▸ hb)
   exact (List.mem_erase_of_ne this).mpr (h b (j9 _ hb))
  have:=List.length_erase_of_mem ha
  have hp:0<m.length:=List.length_pos_of_mem ha
  rw[A8];lia
noncomputable def uE (n:Nat):Nat->List (List Int)
 | 0=>[A7 n 0]
 | k+1=>dd ((uE n k).flatMap fun c=>(R0 n).map fun i=>Jj c i)
theorem wB {n:Nat}:∀{k:Nat}{c:List Int},c∈uE n k->c.length=n
 | 0,c,h=>by rw[List.mem_singleton.mp h];simp
 | k+1,c,h=>by
  obtain ⟨c0,h0,h1⟩:=List.mem_flatMap.mp (yI (show c∈dd _ from h))
  obtain ⟨i,_,e⟩:=List.mem_map.mp h1
  rw[<- e];unfold Jj;rw[bV];exact wB h0
theorem ij {x:Rat}{s:Int}:∀{bs:List (Int × List Int)}{D:F7}{p:List Int × Rat},p∈Q6 x s bs D->(∃b∈bs,p.1=b.2) ∨ ∃q∈D,q.1=p.1
 | [],D,p,h=>.inr ⟨p,h,rfl⟩
 | b::bs,D,p,h=>by
  unfold Q6 at h
  rcases ij h with ⟨c,hc,e⟩|⟨q,hq,e⟩
  ·exact .inl ⟨c,j9 _ hc,e⟩
  ·rcases gn hq with e2|⟨r,hr,e2⟩
   ·exact .inl ⟨b,j8,by rw[<- e,e2]⟩
   ·exact .inr ⟨r,hr,by rw[e2,e]⟩
end Mq
set_option maxHeartbeats 1000000
namespace So
open PySem PyProof.Rows
noncomputable def oB:Bool->n8->Array n8->Nat->Nat->Nat->StateT K6 Sem (Option Nat):=sortPriv% PySem.Builtin.gallop
section
variable {prog:j6}{w:r9}{A:A5}{E:b9->d7->Prop}{s:d7}{rk:n8->Int}{M:n8->Prop}{κ:cM}
noncomputable def xk (prog:j6) (w:r9) (A:A5) (s:d7) (rk:n8->Int) (M:n8->Prop) (κ:cM):Prop:=∀x y:n8,M x->M y->∀Q:Bool->d7->Prop,Q (decide (rk x<rk y)) s->m6 (t8 prog w) A (keyLt' κ x.1 y.1) Q (fun _ _=>False) s
variable {x:n8}
theorem oV {y:n8}{st:K6}{Q:Option Bool->K6->Prop} (hA:xk prog w A s rk M κ) (hk:kindOf st=κ) (hx:M x) (hy:M y) (h:Q (some (decide (rk x<rk y))) st):wpS (t8 prog w) A E s (lt' x y) Q st:=by
 rw[lt'_eq]
 refine i9 (Y1 ?_)
 rw[hk]
 refine i9 (fM (V8 (K5 (hA x y hx hy (fun b s'=>s'=s/\b=decide (rk x<rk y)) ⟨rfl,rfl⟩) (fun b s' hb=>⟨hb.1,?_⟩) fun _ _ z=>z.elim)))
 obtain ⟨_,rfl⟩:=hb
 exact m8 h
variable {arr:Array n8}
theorem N3 {i:Nat}{st:K6}{Q:n8->K6->Prop} (h:arr[i]?=some x) (q:Q x st):wpS (t8 prog w) A E s (elem' arr i) Q st:=by
 rw[elem'_eq,h]
 exact m8 q
noncomputable def bq (rk:n8->Int) (left:Bool) (key x:n8):Bool:=if left=true then decide (rk x<rk key) else !decide (rk key<rk x)
theorem Iv {left:Bool}{key:n8}{i:Nat}{st:K6}{Q:Option Bool->K6->Prop} (hA:xk prog w A s rk M κ) (hk:kindOf st=κ) (hx:arr[i]?=some x) (mx:M x) (mk:M key) (h:Q (some (bq rk left key x)) st):
  wpS (t8 prog w) A E s (do let x <- elem' arr i;if left=true then lt' x key else do let r <- lt' key x;pure (Br (fun x=>!x) r)) Q st:=by
 refine i9 (N3 hx ?_)
 unfold bq at h
 cases left with
 | true =>
  rw[if_pos rfl] at h ⊢
  exact oV hA hk mx mk h
 | false =>
  rw[if_neg (by decide)] at h ⊢
  exact i9 (oV hA hk mk mx (m8 h))
theorem wH {n lo hi:Nat}{st:K6}{f:Nat->Option (Option Nat) × Nat × Nat->StateT K6 Sem (ForInStep (Option (Option Nat) × Nat × Nat))}{P:Nat->Bool}{Q:Option (Option Nat) × Nat × Nat->K6->Prop}
  (hstep:∀(x lo hi:Nat) (R:ForInStep (Option (Option Nat) × Nat × Nat)->K6->Prop),hi<=n->(lo ≥ hi->R (.done (none,lo,hi)) st)->(lo<hi->P (lo+(hi - lo) / 2)=true->R (.yield (none,lo+(hi - lo) / 2+1,hi)) st)->(lo<hi->P (lo+(hi - lo) / 2)=false->R (.yield (none,lo,lo+(hi - lo) / 2)) st)->wpS (t8 prog w) A E s (f x (none,lo,hi)) R st)
  (hP:∀i j,i<=j->j<n->P j=true->P i=true) (h1:lo<=hi) (h2:hi<=n) (h3:∀i,i<lo->P i=true) (h4:∀i,hi<=i->i<n->P i=false)
  (h:∀k,k<=n->(∀i,i<k->P i=true)->(∀i,k<=i->i<n->P i=false)->Q (none,k,k) st):
  wpS (t8 prog w) A E s (forIn [0:n] (none,lo,hi) f) Q st:=by
 refine J8 (I:=fun x c st'=>st'=st/\∃lo hi,c=(none,lo,hi)/\lo<=hi/\hi<=n/\hi - lo<=n - x/\(∀i,i<lo->P i=true)/\(∀i,hi<=i->i<n->P i=false)) ?_ ?_ ⟨rfl,lo,hi,rfl,h1,h2,by lia,h3,h4⟩
 ·rintro x c st' _ hx ⟨rfl,lo,hi,rfl,a1,a2,a3,a4,a5⟩
  refine hstep x lo hi _ a2 (fun hge=>?_) (fun hlt hp=>?_) (fun hlt hp=>?_)
  ·have e:lo=hi:=by lia
   subst e
   exact h lo a2 a4 a5
  ·refine ⟨rfl,_,_,rfl,by lia,a2,by lia,fun i hi'=>?_,a5⟩
   exact hP i _ (by lia) (by lia) hp
  ·refine ⟨rfl,_,_,rfl,by lia,by lia,by lia,a4,fun i hi' hin=>?_⟩
   cases hpi:P i with
   | false=>rfl
   | true=>rw[hP _ i hi' hin hpi] at hp;cases hp
 ·rintro c st' ⟨rfl,lo,hi,rfl,a1,a2,a3,a4,a5⟩
  have e:lo=hi:=by lia
  subst e
  exact h lo a2 a4 a5
theorem ng {left:Bool}{key:n8}{b n hint:Nat}{st:K6}{Q:Option Nat->K6->Prop}{xs:Nat->n8} (hA:xk prog w A s rk M κ) (hk:kindOf st=κ) (mk:M key) (hh:hint<n) (hx:∀i,i<n->arr[b+i]?=some (xs i)/\M (xs i))
  (hP:∀i j,i<=j->j<n->bq rk left key (xs j)=true->bq rk left key (xs i)=true)
  (h:∀k,k<=n->(∀i,i<k->bq rk left key (xs i)=true)->(∀i,k<=i->i<n->bq rk left key (xs i)=false)->Q (some k) st):wpS (t8 prog w) A E s (oB left key arr b n hint) Q st:=by
 have step:∀(i:Nat) (Q':Option Bool->K6->Prop),i<n->Q' (some (bq rk left key (xs i))) st->wpS (t8 prog w) A E s (do let x <- elem' arr (b+i);if left=true then lt' x key else do let r <- lt' key x;pure (Br (fun x=>!x) r)) Q' st:=fun i Q' hi q=>Iv hA hk (hx i hi).1 (hx i hi).2 mk q
 refine i9 (step hint _ hh ?_)
 have BS:∀(x lo hi:Nat) (R:ForInStep (Option (Option Nat) × Nat × Nat)->K6->Prop),hi<=n->(lo ≥ hi->R (.done (none,lo,hi)) st)->(lo<hi->bq rk left key (xs (lo+(hi - lo) / 2))=true->R (.yield (none,lo+(hi - lo) / 2+1,hi)) st)->(lo<hi->bq rk left key (xs (lo+(hi - lo) / 2))=false->R (.yield (none,lo,lo+(hi - lo) / 2)) st) ->
   wpS (t8 prog w) A E s (if lo ≥ hi then pure (BO (none,lo,hi)) else do
    let r <- (do let x <- elem' arr (b+(lo+(hi - lo) / 2));if left=true then lt' x key else do let r <- lt' key x;pure (Br (fun x=>!x) r))
    match r with
    | some more=>if more=true then pure (bC (none,lo+(hi - lo) / 2+1,hi)) else pure (bC (none,lo,lo+(hi - lo) / 2))
    | x=>pure (BO (some none,lo,hi))) R st:=fun x lo hi R hn r1 r2 r3=>by
  by_cases hge:lo ≥ hi
  ·rw[if_pos hge];exact m8 (r1 hge)
  ·rw[if_neg hge]
   refine i9 (step _ _ (by lia) ?_)
   cases hb:bq rk left key (xs (lo+(hi - lo) / 2)) with
   | true=>exact m8 (r2 (by lia) hb)
   | false=>exact m8 (r3 (by lia) hb)
 cases hr:bq rk left key (xs hint) with
 | true =>
  dsimp only
  rw[if_pos rfl]
  refine i9 (W7 (J8 (I:=fun x c st'=>st'=st/\∃la of,c=(none,la,of)/\la<of/\x<of/\hint+la<n/\bq rk left key (xs (hint+la))=true) (Q:=fun c st'=>st'=st/\∃la of,c=(none,la,of)/\la<of/\hint+la<n/\bq rk left key (xs (hint+la))=true/\(of ≥ n - hint ∨ (hint+of<n/\bq rk left key (xs (hint+of))=false))) ?_ ?_ ⟨rfl,0,1,rfl,by decide,by decide,by simpa using hh,hr⟩) ?_)
  ·rintro x c st' _ hxn ⟨rfl,la,of,rfl,a1,a2,a3,a4⟩
   dsimp only
   by_cases hge:of ≥ n - hint
   ·rw[if_pos hge];exact m8 ⟨rfl,la,of,rfl,a1,a3,a4,.inl hge⟩
   ·rw[if_neg hge]
    refine i9 (step _ _ (by lia) ?_)
    cases hb:bq rk left key (xs (hint+of)) with
    | true =>
     dsimp only
     rw[if_neg (by decide)]
     exact m8 ⟨rfl,of,2*of+1,rfl,by lia,by lia,by lia,hb⟩
    | false =>
     dsimp only
     rw[if_pos (by decide)]
     exact m8 ⟨rfl,la,of,rfl,a1,a3,a4,.inr ⟨by lia,hb⟩⟩
  ·rintro c st' ⟨rfl,la,of,rfl,a1,a2,a3,a4⟩
   exact ⟨rfl,la,of,rfl,a1,a3,a4,.inl (by lia)⟩
  ·rintro c st' ⟨rfl,la,of,rfl,a1,a3,a4,a5⟩
   dsimp only
   refine i9 (wH (P:=fun i=>bq rk left key (xs i)) (fun x lo hi R a b c d=>BS x lo hi R a b c d) hP ?_ ?_ (fun i hi=>?_) (fun i hi hin=>?_) fun k k1 k2 k3=>m8 (h k k1 k2 k3))
   ·rcases a5 with z|z <;> lia
   ·lia
   ·exact hP i _ (by lia) a3 a4
   ·rcases a5 with z|⟨z1,z2⟩
    ·lia
    ·cases hb:bq rk left key (xs i) with
     | false=>rfl
     | true=>rw[hP _ i (by lia) hin hb] at z2;cases z2
 | false =>
  dsimp only
  rw[if_neg (by decide)]
  refine i9 (W7 (J8 (I:=fun x c st'=>st'=st/\∃la of,c=(none,la,of)/\la<of/\x<of/\la<=hint/\bq rk left key (xs (hint - la))=false) (Q:=fun c st'=>st'=st/\∃la of,c=(none,la,of)/\la<of/\la<=hint/\bq rk left key (xs (hint - la))=false/\(of ≥ hint+1 ∨ (of<=hint/\bq rk left key (xs (hint - of))=true))) ?_ ?_ ⟨rfl,0,1,rfl,by decide,by decide,by lia,hr⟩) ?_)
  ·rintro x c st' _ hxn ⟨rfl,la,of,rfl,a1,a2,a3,a4⟩
   dsimp only
   by_cases hge:of ≥ hint+1
   ·rw[if_pos hge];exact m8 ⟨rfl,la,of,rfl,a1,a3,a4,.inl hge⟩
   ·rw[if_neg hge]
    refine i9 (step _ _ (by lia) ?_)
    cases hb:bq rk left key (xs (hint - of)) with
    | true =>
     dsimp only
     rw[if_pos rfl]
     exact m8 ⟨rfl,la,of,rfl,a1,a3,a4,.inr ⟨by lia,hb⟩⟩
    | false =>
     dsimp only
     rw[if_neg (by decide)]
     exact m8 ⟨rfl,of,2*of+1,rfl,by lia,by lia,by lia,hb⟩
  ·rintro c st' ⟨rfl,la,of,rfl,a1,a2,a3,a4⟩
   exact ⟨rfl,la,of,rfl,a1,a3,a4,.inl (by lia)⟩
  ·rintro c st' ⟨rfl,la,of,rfl,a1,a3,a4,a5⟩
   dsimp only
   refine i9 (wH (P:=fun i=>bq rk left key (xs i)) (fun x lo hi R a b c d=>BS x lo hi R a b c d) hP ?_ ?_ (fun i hi=>?_) (fun i hi hin=>?_) fun k k1 k2 k3=>m8 (h k k1 k2 k3))
   ·rcases a5 with z|z <;> lia
   ·lia
   ·rcases a5 with z|⟨z1,z2⟩
    ·lia
    ·exact hP i _ (by lia) (by lia) z2
   ·cases hb:bq rk left key (xs i) with
    | false=>rfl
    | true=>rw[hP _ i (by lia) hin hb] at a4;cases a4
end
noncomputable def Du:Array n8->Array n8->StateT K6 Sem (Array n8):=sortPriv% PySem.Builtin.mergeLo
noncomputable def Dv:Array n8->Array n8->StateT K6 Sem (Array n8):=sortPriv% PySem.Builtin.mergeHi
noncomputable def Up (rk:n8->Int) (l:List n8):Prop:=l.Pairwise fun x y=>rk x<=rk y
variable {i j:Nat}
theorem Up.le {rk:n8->Int}{l:List n8} (h:Up rk l) {x y:n8} (hx:l[i]?=some x) (hy:l[j]?=some y) (hij:i<=j):rk x<=rk y:=by
 rcases Nat.lt_or_eq_of_le hij with z|z
 ·have h1:=(List.getElem?_eq_some_iff.mp hx)
  have h2:=(List.getElem?_eq_some_iff.mp hy)
  have:=List.pairwise_iff_getElem.mp h i j h1.1 h2.1 z
  rw[h1.2,h2.2] at this
  exact this
 ·subst z
  rw[hx] at hy
  cases hy
  exact fb _
theorem Up.app {rk:n8->Int}{l m:List n8} (h:Up rk l) (k:Up rk m) (c:∀x∈l,∀y∈m,rk x<=rk y):Up rk (l++m):=List.pairwise_append.mpr ⟨h,k,c⟩
theorem Up.drop {rk:n8->Int}{l:List n8} (h:Up rk l) (i:Nat):Up rk (l.drop i):=qH (List.drop_sublist i l) h
theorem Up.take {rk:n8->Int}{l:List n8} (h:Up rk l) (i:Nat):Up rk (l.take i):=qH (EE i l) h
structure Mg (rk:n8->Int) (la lb O:List n8) (ia ib:Nat):Prop where
 perm:O.Perm (la.take ia++lb.take ib)
 up:Up rk O
 low:∀x∈O,∀y∈la.drop ia++lb.drop ib,rk x<=rk y
variable {la lb O:List n8}{ia ib:Nat}
theorem Mg.blkA {rk:n8->Int}(h:Mg rk la lb O ia ib) (ua:Up rk la) (k:Nat) (c:∀x∈(la.drop ia).take k,∀y∈lb.drop ib,rk x<=rk y):Mg rk la lb (O++(la.drop ia).take k) (ia+k) ib:=by
 refine ⟨?_,h.up.app ((ua.drop ia).take k) fun x hx y hy=>h.low x hx y (O0 _ (C9 hy)),fun x hx y hy=>?_⟩
 ·have e:la.take (ia+k)=la.take ia++(la.drop ia).take k:=List.take_add
  rw[e]
  refine (h.perm.append_right _).trans ?_
  rw[Y2,Y2]
  exact (aQ).append_left _
 ·have hd:la.drop (ia+k)=(la.drop ia).drop k:=by rw[kM]
  rw[hd] at hy
  rcases List.mem_append.mp hx with hx|hx
  ·rcases List.mem_append.mp hy with hy|hy
   ·exact h.low x hx y (O0 _ (M6 hy))
   ·exact h.low x hx y (A9 _ hy)
  ·rcases List.mem_append.mp hy with hy|hy
   ·have:=ua.drop ia
    rw[<- D1 k (la.drop ia)] at this
    exact (List.pairwise_append.mp this).2.2 x hx y hy
   ·exact c x hx y hy
theorem Mg.swap {rk:n8->Int}(h:Mg rk la lb O ia ib):Mg rk lb la O ib ia :=
 ⟨h.perm.trans aQ,h.up,fun x hx y hy=>h.low x hx y (by rcases List.mem_append.mp hy with z|z <;> simp[z])⟩
theorem Mg.blkB {rk:n8->Int}(h:Mg rk la lb O ia ib) (ub:Up rk lb) (k:Nat) (c:∀y∈(lb.drop ib).take k,∀x∈la.drop ia,rk y<=rk x):Mg rk la lb (O++(lb.drop ib).take k) ia (ib+k):=
 (h.swap.blkA ub k c).swap
theorem Mg.fin {rk:n8->Int}(h:Mg rk la lb O ia ib) (ua:Up rk la) (ub:Up rk lb) (c:∀x∈la.drop ia,∀y∈lb.drop ib,rk x<=rk y):(O++la.drop ia++lb.drop ib).Perm (la++lb)/\Up rk (O++la.drop ia++lb.drop ib):=by
 have h1:=h.blkA ua (la.drop ia).length (fun x hx=>c x (C9 hx))
 rw[D4] at h1
 have h2:=h1.blkB ub (lb.drop ib).length (fun y hy x hx=>by
  rw[R6 (by rw[M0];lia)] at hx
  cases hx)
 rw[D4] at h2
 refine ⟨h2.perm.trans ?_,h2.up⟩
 rw[K1 (by rw[M0];lia),K1 (by rw[M0];lia)]
theorem Mg.fin' {rk:n8->Int}(h:Mg rk la lb O ia ib) (ua:Up rk la) (ub:Up rk lb) (c:∀y∈lb.drop ib,∀x∈la.drop ia,rk y<=rk x):(O++lb.drop ib++la.drop ia).Perm (la++lb)/\Up rk (O++lb.drop ib++la.drop ia):=by
 obtain ⟨p,u⟩:=h.swap.fin ub ua c
 exact ⟨p.trans aQ,u⟩
set_option maxHeartbeats 4000000
noncomputable def Gl (st st':K6):Prop:=kindOf st'=kindOf st/\dJ st'=dJ st/\Z1 st'=Z1 st/\dY st'=dY st
theorem Gl.refl (st:K6):Gl st st:=⟨rfl,rfl,rfl,rfl⟩
noncomputable def Fn (rk:n8->Int) (a b r:Array n8):Prop:=r.toList.Perm (a.toList++b.toList)/\Up rk r.toList
noncomputable abbrev kS (rk:n8->Int) (a b out:Array n8) (ia ib:Nat):Prop:=Mg rk a.toList b.toList out.toList ia ib
section
variable {rk:n8->Int}{a b out:Array n8}{ia ib:Nat}
theorem jn (a:Array n8) (i j:Nat):(a.extract i j).toList=(a.toList.drop i).take (j - i):=by simp[Array.toList_extract,List.extract]
variable {i:Nat}{x:n8}
theorem O4 (h:a[i]?=some x):a.toList[i]?=some x:=by simpa using h
theorem ue (h:a[i]?=some x):(a.toList.drop i).take 1=[x]:=by
 have h1:=List.getElem?_eq_some_iff.mp (O4 h)
 rw[List.drop_eq_getElem_cons h1.1,h1.2];rfl
theorem kS.pushA (h:kS rk a b out ia ib) (ua:Up rk a.toList) (hx:a[ia]?=some x) (c:∀y∈b.toList.drop ib,rk x<=rk y):kS rk a b (out.push x) (ia+1) ib:=by
 have:=Mg.blkA h ua 1 (fun z hz y hy=>by rw[ue hx] at hz;rw[List.mem_singleton.mp hz];exact c y hy)
 rw[ue hx] at this
 show Mg rk _ _ (out.push x).toList _ _
 rw[gJ];exact this
theorem kS.pushB (h:kS rk a b out ia ib) (ub:Up rk b.toList) (hx:b[ib]?=some x) (c:∀y∈a.toList.drop ia,rk x<=rk y):kS rk a b (out.push x) ia (ib+1):=by
 have:=Mg.blkB h ub 1 (fun z hz y hy=>by rw[ue hx] at hz;rw[List.mem_singleton.mp hz];exact c y hy)
 rw[ue hx] at this
 show Mg rk _ _ (out.push x).toList _ _
 rw[gJ];exact this
theorem kS.extA (h:kS rk a b out ia ib) (ua:Up rk a.toList) (k:Nat) (c:∀x∈(a.toList.drop ia).take k,∀y∈b.toList.drop ib,rk x<=rk y):kS rk a b (out++a.extract ia (ia+k)) (ia+k) ib:=by
 show Mg rk _ _ (out++a.extract ia (ia+k)).toList _ _
 rw[I0,jn,show ia+k - ia=k by lia]
 exact Mg.blkA h ua k c
theorem kS.extB (h:kS rk a b out ia ib) (ub:Up rk b.toList) (k:Nat) (c:∀x∈(b.toList.drop ib).take k,∀y∈a.toList.drop ia,rk x<=rk y):kS rk a b (out++b.extract ib (ib+k)) ia (ib+k):=by
 show Mg rk _ _ (out++b.extract ib (ib+k)).toList _ _
 rw[I0,jn,show ib+k - ib=k by lia]
 exact Mg.blkB h ub k c
theorem oG (a:Array n8) (i:Nat):(a.extract i).toList=a.toList.drop i:=by
 rw[jn,K1 (by rw[M0,G2];lia)]
theorem kS.done (h:kS rk a b out ia ib) (ua:Up rk a.toList) (ub:Up rk b.toList) (c:∀x∈a.toList.drop ia,∀y∈b.toList.drop ib,rk x<=rk y):Fn rk a b (out++a.extract ia++b.extract ib):=by
 unfold Fn
 rw[I0,I0,oG,oG]
 exact Mg.fin h ua ub c
theorem kS.last (h:kS rk a b out ia ib) (ua:Up rk a.toList) (ub:Up rk b.toList) (c:∀y∈b.toList.drop ib,∀x∈a.toList.drop ia,rk y<=rk x):Fn rk a b (out++b.extract ib++a.extract ia):=by
 unfold Fn
 rw[I0,I0,oG,oG]
 exact Mg.fin' h ua ub c
theorem zB {n:Nat} (h:a.size<=n) {P:n8->Prop}:∀x∈a.toList.drop n,P x:=fun x hx=>by
 rw[R6 (by rw[G2];exact h)] at hx
 cases hx
theorem fL {u:Up rk a.toList}(hx:a[i]?=some x):∀y∈a.toList.drop i,rk x<=rk y:=fun y hy=>by
 obtain ⟨j,hj⟩:=List.mem_iff_getElem?.mp hy
 rw[O2] at hj
 exact u.le (O4 hx) hj (by lia)
theorem Dc (hi:i+1=a.size) (hx:a[i]?=some x):∀y∈a.toList.drop i,y=x:=fun y hy=>by
 obtain ⟨j,hj⟩:=List.mem_iff_getElem?.mp hy
 rw[O2] at hj
 have h1:=(List.getElem?_eq_some_iff.mp hj).1
 rw[G2] at h1
 have e:i+j=i:=by lia
 rw[e,O4 hx] at hj
 cases hj
 rfl
theorem Z7 (h:i<a.size):∃x,a[i]?=some x/\x∈a.toList:=⟨a[i],G1 h,Array.getElem_mem_toList h⟩
theorem oX {k:Nat}(h:x∈(a.toList.drop i).take k):∃j,j<k/\a[i+j]?=some x:=by
 obtain ⟨j,hj⟩:=List.mem_iff_getElem?.mp h
 rw[P7] at hj
 split at hj
 ·rename_i hjk
  rw[O2] at hj
  exact ⟨j,hjk,by simpa using hj⟩
 ·cases hj
end
section
variable {prog:j6}{w:r9}{A:A5}{E:b9->d7->Prop}{s:d7}{rk:n8->Int}{M:n8->Prop}{κ:cM}
theorem gal {left:Bool}{key:n8}{a:Array n8}{i:Nat}{st:K6}{Q:Option Nat->K6->Prop} (hA:xk prog w A s rk M κ) (hk:kindOf st=κ) (mk:M key) (ma:∀x∈a.toList,M x) (u:Up rk a.toList) (hi:i<a.size)
  (h:∀k,i+k<=a.size->(∀x∈(a.toList.drop i).take k,bq rk left key x=true)->(∀x,a[i+k]?=some x->bq rk left key x=false)->Q (some k) st):wpS (t8 prog w) A E s (oB left key a i (a.size - i) 0) Q st:=by
 have hg:∀j,j<a.size - i->a[i+j]?=some (a.getD (i+j) key):=fun j hj=>by
  rw[G1 (by lia)]
  simp[BV,show i+j<a.size by lia]
 refine ng (xs:=fun j=>a.getD (i+j) key) hA hk mk (by lia) (fun j hj=>⟨hg j hj,?_⟩) (fun j1 j2 h12 h2 hb=>?_) (fun k h1 h2 h3=>h k (by lia) (fun x hx=>?_) (fun x hx=>?_))
 ·have:=hg j hj
  exact ma _ (C5 (O4 this))
 ·have hle:=u.le (O4 (hg j1 (by lia))) (O4 (hg j2 h2)) (by lia)
  unfold bq at hb ⊢
  cases left with
  | true =>
   rw[if_pos rfl] at hb ⊢
   have:=of_decide_eq_true hb
   exact decide_eq_true (by lia)
  | false =>
   rw[if_neg (by decide)] at hb ⊢
   rw[Y3,decide_eq_false_iff_not] at hb ⊢
   lia
 ·obtain ⟨j,hj,hx'⟩:=oX hx
  have:=h2 j hj
  have e:=hg j (by lia)
  rw[hx'] at e
  injection e with e
  show bq rk left key x=true
  rw[e];exact this
 ·have hlt:=(Array.getElem?_eq_some_iff.mp hx).1
  have:=h3 k (i8 _) (by lia)
  have e:=hg k (by lia)
  rw[hx] at e
  injection e with e
  show bq rk left key x=false
  rw[e];exact this
end
section
variable {prog:j6}{w:r9}{A:A5}{E:b9->d7->Prop}{s:d7}{rk:n8->Int}{M:n8->Prop}{κ:cM}
theorem Jd {α β δ:Type}{C:α->β->Prop}{N:lZ}{f:α->β->StateT K6 Sem δ}{Q:δ->K6->Prop}{st:K6}{G:Prop} (h:(∀x y,C x y->wpS N A E s (f x y) Q st)->G) (t:∀x y,C x y->wpS N A E s (f x y) Q st):G:=h t
theorem ym {a b:Array n8}{st:K6}{Q:Array n8->K6->Prop} (hA:xk prog w A s rk M κ) (hk:kindOf st=κ) (ma:∀x∈a.toList,M x) (mb:∀x∈b.toList,M x) (ua:Up rk a.toList) (ub:Up rk b.toList) (sa:0<a.size) (sb:0<b.size)
  (h0:∀x y,a[0]?=some x->b[0]?=some y->rk y<=rk x) (hl:∀x,a[a.size - 1]?=some x->∀y∈b.toList,rk y<=rk x)
  (h:∀r st',Fn rk a b r->Gl st st'->Q r st'):wpS (t8 prog w) A E s (Du a b) Q st:=by
 obtain ⟨b0,hb0,_⟩:=Z7 (a:=b) sb
 obtain ⟨a0,ha0,_⟩:=Z7 (a:=a) sa
 obtain ⟨al,hal,_⟩:=Z7 (a:=a) (i:=a.size - 1) (by lia)
 have hlast:=hl al hal
 have LAST:∀{out:Array n8}{ia ib:Nat},kS rk a b out ia ib->ia+1=a.size->Fn rk a b (out++b.extract ib++a.extract ia):=fun {out ia ib} hm e=>by
  refine hm.last ua ub fun y hy x hx=>?_
  have:a[ia]?=some al:=by rw[<- hal];congr 1;lia
  rw[Dc e this x hx]
  exact hlast y (M6 hy)
 have ENDB:∀{out:Array n8}{ia ib:Nat},kS rk a b out ia ib->ib=b.size->Fn rk a b (out++a.extract ia++b.extract ib):=fun {out ia ib} hm e=>hm.done ua ub fun x _=>zB (by lia)
 have ENDA:∀{out:Array n8}{ia ib:Nat},kS rk a b out ia ib->ia=a.size->Fn rk a b (out++a.extract ia++b.extract ib):=fun {out ia ib} hm e=>hm.done ua ub (zB (by lia))
 refine i9 (fM (P1 ⟨rfl,?_⟩))
 refine i9 (N3 hb0 ?_)
 have m0:kS rk a b #[b0] 0 1:=by
  have z:kS rk a b #[] 0 0:=⟨by simp,bH,fun x hx=>by simp at hx⟩
  exact z.pushB ub hb0 fun y hy=>F8 (h0 a0 b0 ha0 hb0) (fL (u:=ua) ha0 y hy)
 dsimp only
 by_cases e1:(1 == b.size)=true
 ·rw[if_pos e1]
  exact m8 (h _ _ (ENDB m0 (by simpa using e1)) (Gl.refl st))
 rw[if_neg e1]
 by_cases e2:(0+1 == a.size)=true
 ·rw[if_pos e2]
  exact m8 (h _ _ (LAST m0 (by simpa using e2)) (Gl.refl st))
 rw[if_neg e2]
 have sb2:1<b.size:=by
  have:1≠b.size:=by simpa using e1
  lia
 have sa2:0+1<a.size:=by
  have:0+1≠a.size:=by simpa using e2
  lia
 refine i9 (Y1 ?_)
 refine i9 (W7 (J8 (I:=fun x c st'=>Gl st st'/\∃out ia ib mg,c=(none,out,ia,ib,mg)/\kS rk a b out ia ib/\ia+1<a.size/\ib<b.size/\1+x<=ia+ib)
  (Q:=fun c st'=>Gl st st'/\∃r,c.1=some r/\Fn rk a b r) ?_ ?_ ⟨Gl.refl st,_,_,_,_,rfl,m0,sa2,sb2,by lia⟩) ?_)
 rotate_left
 ·rintro c st' ⟨_,out,ia,ib,mg,rfl,_,z1,z2,z3⟩
  lia
 ·rintro ⟨c1,c2⟩ st' ⟨gl,r,hr,hf⟩
  dsimp only at hr
  subst hr
  exact m8 (h r st' hf gl)
 rintro x c st1 _ hx ⟨gl,out,ia,ib,mg,rfl,hm,za,zb,zp⟩
 have hk1:kindOf st1=κ:=gl.1.trans hk
 dsimp only
 refine i9 (W7 (J8 (I:=fun y c st'=>st'=st1/\∃out ia ib ac bc,c=(none,out,ia,ib,ac,bc)/\kS rk a b out ia ib/\ia+1<a.size/\ib<b.size/\1+x+y<=ia+ib)
  (Q:=fun c st'=>st'=st1/\((∃r,c.1=some r/\Fn rk a b r) ∨ ∃out ia ib ac bc,c=(none,out,ia,ib,ac,bc)/\kS rk a b out ia ib/\ia+1<a.size/\ib<b.size/\1+x+1<=ia+ib)) ?_ ?_ ⟨rfl,out,ia,ib,0,0,rfl,hm,za,zb,by lia⟩) ?_)
 ·rintro y c st' _ hy ⟨rfl,out,ia,ib,ac,bc,rfl,hm,za,zb,zp⟩
  obtain ⟨bx,hbx,mbx⟩:=Z7 (a:=b) zb
  obtain ⟨ax,hax,max⟩:=Z7 (a:=a) (i:=ia) (by lia)
  dsimp only
  refine i9 (N3 hbx (i9 (N3 hax (i9 (oV hA hk1 (mb bx mbx) (ma ax max) ?_)))))
  by_cases hlt:rk bx<rk ax
  ·rw[decide_eq_true hlt]
   dsimp only
   rw[if_pos rfl]
   refine i9 (N3 hbx ?_)
   have hm':=hm.pushB ub hbx fun y hy=>F8 (aC hlt) (fL (u:=ua) hax y hy)
   by_cases e3:(ib+1 == b.size)=true
   ·rw[if_pos e3]
    exact m8 ⟨rfl,.inl ⟨_,rfl,ENDB hm' (by simpa using e3)⟩⟩
   rw[if_neg e3]
   have e3':ib+1≠b.size:=by simpa using e3
   split
   ·exact m8 ⟨rfl,.inr ⟨_,_,_,_,_,rfl,hm',za,by lia,by lia⟩⟩
   ·exact m8 ⟨rfl,_,_,_,_,_,rfl,hm',za,by lia,by lia⟩
  ·rw[decide_eq_false hlt]
   dsimp only
   rw[if_neg (by decide)]
   refine i9 (N3 hax ?_)
   have hm':=hm.pushA ua hax fun y hy=>F8 (Int.not_lt.mp hlt) (fL (u:=ub) hbx y hy)
   by_cases e3:(ia+1+1 == a.size)=true
   ·rw[if_pos e3]
    exact m8 ⟨rfl,.inl ⟨_,rfl,LAST hm' (by simpa using e3)⟩⟩
   rw[if_neg e3]
   have e3':ia+1+1≠a.size:=by simpa using e3
   split
   ·exact m8 ⟨rfl,.inr ⟨_,_,_,_,_,rfl,hm',by lia,zb,by lia⟩⟩
   ·exact m8 ⟨rfl,_,_,_,_,_,rfl,hm',by lia,zb,by lia⟩
 ·rintro c st' ⟨rfl,out,ia,ib,ac,bc,rfl,hm,z1,z2,z3⟩
  lia
 rintro ⟨c1,c2⟩ st' ⟨rfl,(⟨r,hr,hf⟩|⟨out,ia,ib,ac,bc,e,hm,za,zb,zp⟩)⟩
 ·dsimp only at hr
  subst hr
  exact m8 ⟨gl,r,rfl,hf⟩
 cases e
 dsimp only
 refine i9 (fM (P1 ⟨rfl,?_⟩))
 refine i9 (W7 (J8 (I:=fun y c st'=>Gl st st'/\∃out ia ib mg ac bc,c=(none,out,ia,ib,mg,ac,bc)/\kS rk a b out ia ib/\ia+1<a.size/\ib<b.size/\1+x+1+y<=ia+ib)
  (Q:=fun c st'=>Gl st st'/\((∃r,c.1=some r/\Fn rk a b r) ∨ ∃out ia ib mg ac bc,c=(none,out,ia,ib,mg,ac,bc)/\kS rk a b out ia ib/\ia+1<a.size/\ib<b.size/\1+x+1<=ia+ib)) ?_ ?_ ⟨gl,out,ia,ib,_,ac,bc,rfl,hm,za,zb,by lia⟩) ?_)
 ·rintro y c st2 _ hy ⟨gl2,out,ia,ib,mg,ac,bc,rfl,hm,za,zb,zp⟩
  obtain ⟨bx,hbx,mbx⟩:=Z7 (a:=b) zb
  dsimp only
  apply Jd (C:=fun m n:Nat=>True)
  ·intro T
   by_cases hmg:mg<=1
   ·rw[if_neg (by lia)]
    obtain ⟨q,_⟩:∃q:Nat,q=0:=⟨0,rfl⟩
    generalize mg=m
    exact T m q trivial
   ·rw[if_pos (by lia)]
    exact T _ 0 trivial
  intro mg _ _
  refine i9 (K4 ?_)
  refine i9 (N3 hbx ?_)
  refine i9 (gal hA (gl2.1.trans hk) (mb bx mbx) ma ua (by lia) fun k hk1' hk2 hk3=>?_)
  dsimp only
  have hbk:∀x∈(a.toList.drop ia).take k,rk x<=rk bx:=fun x hx=>by
   have:=hk2 x hx
   unfold bq at this
   rw[if_neg (by decide),Y3,decide_eq_false_iff_not] at this
   lia
  have hkk:∀ax,a[ia+k]?=some ax->rk bx<rk ax:=fun ax hax=>by
   have:=hk3 ax (by simpa using hax)
   unfold bq at this
   rw[if_neg (by decide),nE,decide_eq_true_iff] at this
   exact this
  have hm1:=hm.extA ua k fun x hx y hy=>F8 (hbk x hx) (fL (u:=ub) hbx y hy)
  have hk00:k=0->∀ax,a[ia]?=some ax->rk bx<rk ax:=fun e=>by subst e;exact hkk
  apply Jd (C:=fun (o:Array n8) i=>kS rk a b o i ib/\i+1<a.size/\1+x+1+y<=i+ib/\∀ax,a[i]?=some ax->rk bx<rk ax)
  ·intro T
   by_cases hk0:k=0
   ·rw[if_neg (by lia)]
    have hc:kS rk a b out ia ib/\ia+1<a.size/\1+x+1+y<=ia+ib/\∀ax,a[ia]?=some ax->rk bx<rk ax:=⟨hm,za,zp,hk00 hk0⟩
    revert hc
    generalize ia=i
    generalize out=o
    intro hc
    exact T o i hc
   rw[if_pos (by lia)]
   by_cases e4:(ia+k+1 == a.size)=true
   ·rw[if_pos e4]
    exact m8 ⟨⟨gl2.1,gl2.2.1,gl2.2.2.1,gl2.2.2.2⟩,.inl ⟨_,rfl,LAST hm1 (by simpa using e4)⟩⟩
   rw[if_neg e4]
   by_cases e5:(ia+k == a.size)=true
   ·rw[if_pos e5]
    exact m8 ⟨⟨gl2.1,gl2.2.1,gl2.2.2.1,gl2.2.2.2⟩,.inl ⟨_,rfl,ENDA hm1 (by simpa using e5)⟩⟩
   rw[if_neg e5]
   have e4':ia+k+1≠a.size:=by simpa using e4
   have e5':ia+k≠a.size:=by simpa using e5
   exact T _ _ ⟨hm1,by lia,by lia,hkk⟩
  intro o i ⟨hm,za,zp,hlt⟩
  obtain ⟨ax,hax,max⟩:=Z7 (a:=a) (i:=i) (by lia)
  have hba:=hlt ax hax
  refine i9 (N3 hbx ?_)
  have hm2:=hm.pushB ub hbx fun y hy=>F8 (aC hba) (fL (u:=ua) hax y hy)
  by_cases e6:(ib+1 == b.size)=true
  ·rw[if_pos e6]
   exact m8 ⟨⟨gl2.1,gl2.2.1,gl2.2.2.1,gl2.2.2.2⟩,.inl ⟨_,rfl,ENDB hm2 (by simpa using e6)⟩⟩
  rw[if_neg e6]
  have e6':ib+1≠b.size:=by simpa using e6
  generalize o.push bx=o2 at hm2 ⊢
  generalize hl:ib+1=l at hm2 e6' ⊢
  refine i9 (N3 hax ?_)
  refine i9 (gal hA (gl2.1.trans hk) (ma ax max) mb ub (i:=l) (by lia) fun j hj1 hj2 hj3=>?_)
  dsimp only
  have hbj:∀z∈(b.toList.drop l).take j,rk z<=rk ax:=fun z hz=>by
   have:=hj2 z hz
   unfold bq at this
   rw[if_pos rfl,decide_eq_true_iff] at this
   lia
  have hjj:∀z,b[l+j]?=some z->rk ax<=rk z:=fun z hz=>by
   have:=hj3 z (by simpa using hz)
   unfold bq at this
   rw[if_pos rfl,decide_eq_false_iff_not] at this
   lia
  have hm3:=hm2.extB ub j fun z hz y hy=>F8 (hbj z hz) (fL (u:=ua) hax y hy)
  have hj00:j=0->∀z,b[l]?=some z->rk ax<=rk z:=fun e=>by subst e;exact hjj
  apply Jd (C:=fun (o:Array n8) n=>kS rk a b o i n/\n<b.size/\1+x+1+y<=i+n/\∀z,b[n]?=some z->rk ax<=rk z)
  ·intro T
   by_cases hj0:j=0
   ·rw[if_neg (by lia)]
    have hc:kS rk a b o2 i l/\l<b.size/\1+x+1+y<=i+l/\∀z,b[l]?=some z->rk ax<=rk z:=⟨hm2,by lia,by lia,hj00 hj0⟩
    revert hc
    generalize l=n
    generalize o2=o
    intro hc
    exact T o n hc
   rw[if_pos (by lia)]
   by_cases e7:(l+j == b.size)=true
   ·rw[if_pos e7]
    exact m8 ⟨⟨gl2.1,gl2.2.1,gl2.2.2.1,gl2.2.2.2⟩,.inl ⟨_,rfl,ENDB hm3 (by simpa using e7)⟩⟩
   rw[if_neg e7]
   have e7':l+j≠b.size:=by simpa using e7
   exact T _ _ ⟨hm3,by lia,by lia,hjj⟩
  intro o n ⟨hm,zn,zp,hle⟩
  refine i9 (N3 hax ?_)
  obtain ⟨bz,hbz,_⟩:=Z7 (a:=b) (i:=n) zn
  have hm4:=hm.pushA ua hax fun y hy=>F8 (hle bz hbz) (fL (u:=ub) hbz y hy)
  by_cases e8:(i+1+1 == a.size)=true
  ·rw[if_pos e8]
   exact m8 ⟨⟨gl2.1,gl2.2.1,gl2.2.2.1,gl2.2.2.2⟩,.inl ⟨_,rfl,LAST hm4 (by simpa using e8)⟩⟩
  rw[if_neg e8]
  have e8':i+1+1≠a.size:=by simpa using e8
  split
  ·exact m8 ⟨⟨gl2.1,gl2.2.1,gl2.2.2.1,gl2.2.2.2⟩,.inr ⟨_,_,_,_,_,_,rfl,hm4,by lia,by lia,by lia⟩⟩
  ·exact m8 ⟨⟨gl2.1,gl2.2.1,gl2.2.2.1,gl2.2.2.2⟩,_,_,_,_,_,_,rfl,hm4,by lia,by lia,by lia⟩
 ·rintro c st' ⟨_,out,ia,ib,mg,ac,bc,rfl,hm,z1,z2,z3⟩
  lia
 ·rintro ⟨c1,c2⟩ st2 ⟨gl2,(⟨r,hr,hf⟩|⟨out,ia,ib,mg,ac,bc,e,hm,za,zb,zp⟩)⟩
  ·dsimp only at hr
   subst hr
   exact m8 ⟨gl2,r,rfl,hf⟩
  ·cases e
   dsimp only
   refine i9 (K4 ?_)
   exact m8 ⟨⟨gl2.1,gl2.2.1,gl2.2.2.1,gl2.2.2.2⟩,_,_,_,_,rfl,hm,za,zb,by lia⟩
end
structure Mh (rk:n8->Int) (la lb O:List n8) (na nb:Nat):Prop where
 perm:O.Perm (la.drop na++lb.drop nb)
 up:Up rk O
 hi:∀x∈la.take na++lb.take nb,∀y∈O,rk x<=rk y
variable {na nb:Nat}
theorem Mh.swap {rk:n8->Int}(h:Mh rk la lb O na nb):Mh rk lb la O nb na :=
 ⟨h.perm.trans aQ,h.up,fun x hx y hy=>h.hi x (by rcases List.mem_append.mp hx with z|z <;> simp[z]) y hy⟩
theorem Mh.blkA {rk:n8->Int}(h:Mh rk la lb O na nb) (ua:Up rk la) (k:Nat) (hk:k<=na) (c:∀x∈(la.take na).drop k,∀y∈lb.take nb,rk y<=rk x):Mh rk la lb ((la.take na).drop k++O) k nb:=by
 have ht:la.take k=(la.take na).take k:=by rw[uN,sS hk]
 refine ⟨?_,((ua.take na).drop k).app h.up fun x hx y hy=>h.hi x (O0 _ (M6 hx)) y hy,fun x hx y hy=>?_⟩
 ·have e:la.drop k=(la.take na).drop k++la.drop na:=by
   have h1:la=la.take na++la.drop na:=(D1 na la).symm
   by_cases hn:na<=la.length
   ·conv=>lhs;rw[h1]
    rw[qP (by rw[y7];lia)]
   ·rw[K1 (by lia),R6 (show la.length<=na by lia),S6]
  rw[e,Y2]
  exact h.perm.append_left _
 ·rcases List.mem_append.mp hy with hy|hy
  ·rcases List.mem_append.mp hx with hx|hx
   ·rw[ht] at hx
    have:=ua.take na
    rw[<- D1 k (la.take na)] at this
    exact (List.pairwise_append.mp this).2.2 x hx y hy
   ·exact c y hy x hx
  ·rcases List.mem_append.mp hx with hx|hx
   ·rw[ht] at hx
    exact h.hi x (O0 _ (C9 hx)) y hy
   ·exact h.hi x (A9 _ hx) y hy
theorem Mh.blkB {rk:n8->Int}(h:Mh rk la lb O na nb) (ub:Up rk lb) (k:Nat) (hk:k<=nb) (c:∀y∈(lb.take nb).drop k,∀x∈la.take na,rk x<=rk y):Mh rk la lb ((lb.take nb).drop k++O) na k :=
 (h.swap.blkA ub k hk c).swap
theorem Mh.fin {rk:n8->Int}(h:Mh rk la lb O na nb) (ua:Up rk la) (ub:Up rk lb) (c:∀x∈la.take na,∀y∈lb.take nb,rk x<=rk y):(la.take na++lb.take nb++O).Perm (la++lb)/\Up rk (la.take na++lb.take nb++O):=by
 have h1:=h.blkB ub 0 (u9 _) (fun y hy x hx=>c x hx y (by simpa using hy))
 rw[R5] at h1
 have h2:=h1.blkA ua 0 (u9 _) (fun x _ y hy=>by simp at hy)
 rw[R5,<- Y2] at h2
 exact ⟨h2.perm,h2.up⟩
theorem Mh.fin' {rk:n8->Int}(h:Mh rk la lb O na nb) (ua:Up rk la) (ub:Up rk lb) (c:∀y∈lb.take nb,∀x∈la.take na,rk y<=rk x):(lb.take nb++la.take na++O).Perm (la++lb)/\Up rk (lb.take nb++la.take na++O):=by
 obtain ⟨p,u⟩:=h.swap.fin ub ua c
 exact ⟨p.trans aQ,u⟩
noncomputable abbrev kR (rk:n8->Int) (a b out:Array n8) (na nb:Nat):Prop:=Mh rk a.toList b.toList out.toList.reverse na nb
section
variable {rk:n8->Int}{a b out:Array n8}{na nb:Nat}
variable {i n:Nat}{x:n8}
theorem tm (hn:n=i+1) (h:a[i]?=some x):(a.toList.take n).drop i=[x]:=by
 subst hn
 have h1:=List.getElem?_eq_some_iff.mp (O4 h)
 have hl:=h1.1
 rw[D2,f6 h1.1,h1.2,qP (by rw[y7];lia),R6 (by rw[y7];lia)]
 rfl
theorem kR.pushA (h:kR rk a b out na nb) (ua:Up rk a.toList) (hi:na=i+1) (hx:a[i]?=some x) (c:∀y∈b.toList.take nb,rk y<=rk x):kR rk a b (out.push x) i nb:=by
 have:=Mh.blkA h ua i (by lia) (fun z hz y hy=>by rw[tm hi hx] at hz;rw[List.mem_singleton.mp hz];exact c y hy)
 rw[tm hi hx] at this
 show Mh rk _ _ (out.push x).toList.reverse _ _
 rw[gJ,fw];exact this
theorem kR.pushB (h:kR rk a b out na nb) (ub:Up rk b.toList) (hi:nb=i+1) (hx:b[i]?=some x) (c:∀y∈a.toList.take na,rk y<=rk x):kR rk a b (out.push x) na i:=by
 have:=Mh.blkB h ub i (by lia) (fun z hz y hy=>by rw[tm hi hx] at hz;rw[List.mem_singleton.mp hz];exact c y hy)
 rw[tm hi hx] at this
 show Mh rk _ _ (out.push x).toList.reverse _ _
 rw[gJ,fw];exact this
theorem oE (a:Array n8) (k n:Nat):(a.extract k n).toList=(a.toList.take n).drop k:=by
 rw[jn,List.drop_take]
theorem kR.extA (h:kR rk a b out na nb) (ua:Up rk a.toList) (k:Nat) (hk:k<=na) (c:∀x∈(a.toList.take na).drop k,∀y∈b.toList.take nb,rk y<=rk x):kR rk a b (out++(a.extract k na).reverse) k nb:=by
 show Mh rk _ _ (out++(a.extract k na).reverse).toList.reverse _ _
 rw[I0,eh,fw,Bu,oE]
 exact Mh.blkA h ua k hk c
theorem kR.extB (h:kR rk a b out na nb) (ub:Up rk b.toList) (k:Nat) (hk:k<=nb) (c:∀x∈(b.toList.take nb).drop k,∀y∈a.toList.take na,rk y<=rk x):kR rk a b (out++(b.extract k nb).reverse) na k:=by
 show Mh rk _ _ (out++(b.extract k nb).reverse).toList.reverse _ _
 rw[I0,eh,fw,Bu,oE]
 exact Mh.blkB h ub k hk c
theorem oD (a:Array n8) (n:Nat):(a.extract 0 n).toList=a.toList.take n:=by rw[oE,R5]
theorem kR.done (h:kR rk a b out na nb) (ua:Up rk a.toList) (ub:Up rk b.toList) (c:∀x∈a.toList.take na,∀y∈b.toList.take nb,rk x<=rk y):Fn rk a b (a.extract 0 na++b.extract 0 nb++out.reverse):=by
 unfold Fn
 rw[I0,I0,oD,oD,eh]
 exact Mh.fin h ua ub c
theorem kR.first (h:kR rk a b out na nb) (ua:Up rk a.toList) (ub:Up rk b.toList) (c:∀y∈b.toList.take nb,∀x∈a.toList.take na,rk y<=rk x):Fn rk a b (b.extract 0 nb++a.extract 0 na++out.reverse):=by
 unfold Fn
 rw[I0,I0,oD,oD,eh]
 exact Mh.fin' h ua ub c
theorem ur {u:Up rk a.toList}(hn:n<=i+1) (hx:a[i]?=some x):∀y∈a.toList.take n,rk y<=rk x:=fun y hy=>by
 obtain ⟨j,hj⟩:=List.mem_iff_getElem?.mp hy
 rw[P7] at hj
 split at hj
 ·exact u.le hj (O4 hx) (by lia)
 ·cases hj
theorem AF (hn:n=1) (hx:a[0]?=some x):∀y∈a.toList.take n,y=x:=fun y hy=>by
 subst hn
 obtain ⟨j,hj⟩:=List.mem_iff_getElem?.mp hy
 rw[P7] at hj
 split at hj
 ·have:j=0:=by lia
  subst this
  rw[O4 hx] at hj
  cases hj
  rfl
 ·cases hj
end
section
variable {prog:j6}{w:r9}{A:A5}{E:b9->d7->Prop}{s:d7}{rk:n8->Int}{M:n8->Prop}{κ:cM}
theorem KW {left:Bool}{key:n8}{a:Array n8}{n:Nat}{st:K6}{Q:Option Nat->K6->Prop} (hA:xk prog w A s rk M κ) (hk:kindOf st=κ) (mk:M key) (ma:∀x∈a.toList,M x) (u:Up rk a.toList) (hn:0<n) (hs:n<=a.size)
  (h:∀k,k<=n->(∀x∈a.toList.take k,bq rk left key x=true)->(∀x∈(a.toList.take n).drop k,bq rk left key x=false)->Q (some k) st):wpS (t8 prog w) A E s (oB left key a 0 n (n - 1)) Q st:=by
 have hg:∀j,j<n->a[0+j]?=some (a.getD j key):=fun j hj=>by
  rw[U7,G1 (by lia)]
  simp[BV,show j<a.size by lia]
 have hg':∀j,j<n->a[j]?=some (a.getD j key):=fun j hj=>by have:=hg j hj;rw[U7] at this;exact this
 refine ng (xs:=fun j=>a.getD j key) hA hk mk (by lia) (fun j hj=>⟨hg j hj,?_⟩) (fun j1 j2 h12 h2 hb=>?_) (fun k h1 h2 h3=>h k (by lia) (fun x hx=>?_) (fun x hx=>?_))
 ·exact ma _ (C5 (O4 (hg' j hj)))
 ·have hle:=u.le (O4 (hg' j1 (by lia))) (O4 (hg' j2 h2)) (by lia)
  unfold bq at hb ⊢
  cases left with
  | true =>
   rw[if_pos rfl] at hb ⊢
   have:=of_decide_eq_true hb
   exact decide_eq_true (by lia)
  | false =>
   rw[if_neg (by decide)] at hb ⊢
   rw[Y3,decide_eq_false_iff_not] at hb ⊢
   lia
 ·obtain ⟨j,hj,hx'⟩:=oX (i:=0) (by simpa using hx)
  have:=h2 j hj
  have e:=hg j (by lia)
  rw[hx'] at e
  injection e with e
  show bq rk left key x=true
  rw[e];exact this
 ·obtain ⟨j,hj⟩:=List.mem_iff_getElem?.mp hx
  rw[O2,P7] at hj
  split at hj
  ·rename_i hlt
   have:=h3 (k+j) (by lia) hlt
   have e:=O4 (hg' (k+j) hlt)
   rw[hj] at e
   injection e with e
   show bq rk left key x=false
   rw[e];exact this
  ·cases hj
end
section
variable {prog:j6}{w:r9}{A:A5}{E:b9->d7->Prop}{s:d7}{rk:n8->Int}{M:n8->Prop}{κ:cM}
theorem yn {a b:Array n8}{st:K6}{Q:Array n8->K6->Prop} (hA:xk prog w A s rk M κ) (hk:kindOf st=κ) (ma:∀x∈a.toList,M x) (mb:∀x∈b.toList,M x) (ua:Up rk a.toList) (ub:Up rk b.toList) (sa:0<a.size) (sb:0<b.size)
  (h0:∀x y,a[0]?=some x->b[0]?=some y->rk y<=rk x) (hl:∀x,a[a.size - 1]?=some x->∀y∈b.toList,rk y<=rk x)
  (h:∀r st',Fn rk a b r->Gl st st'->Q r st'):wpS (t8 prog w) A E s (Dv a b) Q st:=by
 obtain ⟨b0,hb0,_⟩:=Z7 (a:=b) sb
 obtain ⟨a0,ha0,_⟩:=Z7 (a:=a) sa
 obtain ⟨al,hal,_⟩:=Z7 (a:=a) (i:=a.size - 1) (by lia)
 have hlast:=hl al hal
 have hfirst:∀x∈a.toList,rk b0<=rk x:=fun x hx=>F8 (h0 a0 b0 ha0 hb0) (fL (u:=ua) ha0 x (by simpa using hx))
 have FIRST:∀{out:Array n8}{na nb:Nat},kR rk a b out na nb->nb=1->Fn rk a b (b.extract 0 nb++a.extract 0 na++out.reverse):=fun {out na nb} hm e=>by
  refine hm.first ua ub fun y hy x hx=>?_
  rw[AF e hb0 y hy]
  exact hfirst x (C9 hx)
 have ENDA:∀{out:Array n8}{na nb:Nat},kR rk a b out na nb->na=0->Fn rk a b (a.extract 0 na++b.extract 0 nb++out.reverse):=fun {out na nb} hm e=>hm.done ua ub fun x hx=>by
  rw[e] at hx;simp at hx
 have ENDB:∀{out:Array n8}{na nb:Nat},kR rk a b out na nb->nb=0->Fn rk a b (a.extract 0 na++b.extract 0 nb++out.reverse):=fun {out na nb} hm e=>hm.done ua ub fun x _ y hy=>by
  rw[e] at hy;simp at hy
 refine i9 (fM (P1 ⟨rfl,?_⟩))
 refine i9 (N3 hal ?_)
 have m0:kR rk a b #[al] (a.size - 1) b.size:=by
  have z:kR rk a b #[] a.size b.size:=⟨by
   show ([]:List n8).Perm _
   rw[R6 (by simp),R6 (by simp)]
   exact bW _,bH,fun x _ y hy=>by simp at hy⟩
  exact z.pushA ua (by lia) hal fun y hy=>hlast y (C9 hy)
 dsimp only
 by_cases e1:(a.size - 1 == 0)=true
 ·rw[if_pos e1]
  exact m8 (h _ _ (ENDA m0 (by simpa using e1)) (Gl.refl st))
 rw[if_neg e1]
 by_cases e2:(b.size == 1)=true
 ·rw[if_pos e2]
  exact m8 (h _ _ (FIRST m0 (by simpa using e2)) (Gl.refl st))
 rw[if_neg e2]
 have sa2:0<a.size - 1:=by
  have:¬ a.size - 1=0:=by simpa using e1
  lia
 have sb2:1<b.size:=by
  have:¬ b.size=1:=by simpa using e2
  lia
 refine i9 (Y1 ?_)
 refine i9 (W7 (J8 (I:=fun x c st'=>Gl st st'/\∃na nb out mg,c=(none,na,nb,out,mg)/\kR rk a b out na nb/\0<na/\1<nb/\na<=a.size/\nb<=b.size/\na+nb+1+x<=a.size+b.size)
  (Q:=fun c st'=>Gl st st'/\∃r,c.1=some r/\Fn rk a b r) ?_ ?_ ⟨Gl.refl st,_,_,_,_,rfl,m0,sa2,sb2,by lia,by lia,by lia⟩) ?_)
 rotate_left
 ·rintro c st' ⟨_,na,nb,out,mg,rfl,_,z1,z2,z4,z5,z3⟩
  lia
 ·rintro ⟨c1,c2⟩ st' ⟨gl,r,hr,hf⟩
  dsimp only at hr
  subst hr
  exact m8 (h r st' hf gl)
 rintro x c st1 _ hx ⟨gl,na,nb,out,mg,rfl,hm,za,zb,zas,zbs,zp⟩
 have hk1:kindOf st1=κ:=gl.1.trans hk
 dsimp only
 refine i9 (W7 (J8 (I:=fun y c st'=>st'=st1/\∃na nb out ac bc,c=(none,na,nb,out,ac,bc)/\kR rk a b out na nb/\0<na/\1<nb/\na<=a.size/\nb<=b.size/\na+nb+1+x+y<=a.size+b.size)
  (Q:=fun c st'=>st'=st1/\((∃r,c.1=some r/\Fn rk a b r) ∨ ∃na nb out ac bc,c=(none,na,nb,out,ac,bc)/\kR rk a b out na nb/\0<na/\1<nb/\na<=a.size/\nb<=b.size/\na+nb+1+x+1<=a.size+b.size)) ?_ ?_ ⟨rfl,na,nb,out,0,0,rfl,hm,za,zb,zas,zbs,by lia⟩) ?_)
 ·rintro y c st' _ hy ⟨rfl,na,nb,out,ac,bc,rfl,hm,za,zb,zas,zbs,zp⟩
  obtain ⟨bx,hbx,mbx⟩:=Z7 (a:=b) (i:=nb - 1) (by lia)
  obtain ⟨ax,hax,max⟩:=Z7 (a:=a) (i:=na - 1) (by lia)
  dsimp only
  refine i9 (N3 hbx (i9 (N3 hax (i9 (oV hA hk1 (mb bx mbx) (ma ax max) ?_)))))
  by_cases hlt:rk bx<rk ax
  ·rw[decide_eq_true hlt]
   dsimp only
   rw[if_pos rfl]
   refine i9 (N3 hax ?_)
   have hm':=hm.pushA ua (i:=na - 1) (by lia) hax fun y hy=>F8 (ur (u:=ub) (n:=nb) (by lia) hbx y hy) (aC hlt)
   by_cases e3:(na - 1 == 0)=true
   ·rw[if_pos e3]
    exact m8 ⟨rfl,.inl ⟨_,rfl,ENDA hm' (by simpa using e3)⟩⟩
   rw[if_neg e3]
   have e3':na - 1≠0:=by simpa using e3
   split
   ·exact m8 ⟨rfl,.inr ⟨_,_,_,_,_,rfl,hm',by lia,zb,by lia,zbs,by lia⟩⟩
   ·exact m8 ⟨rfl,_,_,_,_,_,rfl,hm',by lia,zb,by lia,zbs,by lia⟩
  ·rw[decide_eq_false hlt]
   dsimp only
   rw[if_neg (by decide)]
   refine i9 (N3 hbx ?_)
   have hm':=hm.pushB ub (i:=nb - 1) (by lia) hbx fun y hy=>F8 (ur (u:=ua) (n:=na) (by lia) hax y hy) (Int.not_lt.mp hlt)
   by_cases e3:(nb - 1 == 1)=true
   ·rw[if_pos e3]
    exact m8 ⟨rfl,.inl ⟨_,rfl,FIRST hm' (by simpa using e3)⟩⟩
   rw[if_neg e3]
   have e3':nb - 1≠1:=by simpa using e3
   split
   ·exact m8 ⟨rfl,.inr ⟨_,_,_,_,_,rfl,hm',za,by lia,zas,by lia,by lia⟩⟩
   ·exact m8 ⟨rfl,_,_,_,_,_,rfl,hm',za,by lia,zas,by lia,by lia⟩
 ·rintro c st' ⟨rfl,na,nb,out,ac,bc,rfl,hm,z1,z2,z4,z5,z3⟩
  lia
 rintro ⟨c1,c2⟩ st' ⟨rfl,(⟨r,hr,hf⟩|⟨na,nb,out,ac,bc,e,hm,za,zb,zas,zbs,zp⟩)⟩
 ·dsimp only at hr
  subst hr
  exact m8 ⟨gl,r,rfl,hf⟩
 cases e
 dsimp only
 refine i9 (fM (P1 ⟨rfl,?_⟩))
 refine i9 (W7 (J8 (I:=fun y c st'=>Gl st st'/\∃na nb out mg ac bc,c=(none,na,nb,out,mg,ac,bc)/\kR rk a b out na nb/\0<na/\1<nb/\(na<=a.size/\nb<=b.size)/\na+nb+1+x+1+y<=a.size+b.size)
  (Q:=fun c st'=>Gl st st'/\((∃r,c.1=some r/\Fn rk a b r) ∨ ∃na nb out mg ac bc,c=(none,na,nb,out,mg,ac,bc)/\kR rk a b out na nb/\0<na/\1<nb/\(na<=a.size/\nb<=b.size)/\na+nb+1+x+1<=a.size+b.size)) ?_ ?_ ⟨gl,na,nb,out,_,ac,bc,rfl,hm,za,zb,⟨zas,zbs⟩,by lia⟩) ?_)
 ·rintro y c st2 _ hy ⟨gl2,na,nb,out,mg,ac,bc,rfl,hm,za,zb,⟨zas,zbs⟩,zp⟩
  obtain ⟨bx,hbx,mbx⟩:=Z7 (a:=b) (i:=nb - 1) (by lia)
  dsimp only
  apply Jd (C:=fun m n:Nat=>True)
  ·intro T
   by_cases hmg:mg<=1
   ·rw[if_neg (by lia)]
    obtain ⟨q,_⟩:∃q:Nat,q=0:=⟨0,rfl⟩
    generalize mg=m
    exact T m q trivial
   ·rw[if_pos (by lia)]
    exact T _ 0 trivial
  intro mg _ _
  refine i9 (K4 ?_)
  refine i9 (N3 hbx ?_)
  refine i9 (KW hA (gl2.1.trans hk) (mb bx mbx) ma ua (n:=na) (by lia) (by lia) fun k hk1' hk2 hk3=>?_)
  dsimp only
  have hca:∀y∈a.toList.take k,rk y<=rk bx:=fun y hy=>by
   have:=hk2 y hy
   unfold bq at this
   rw[if_neg (by decide),Y3,decide_eq_false_iff_not] at this
   lia
  have hm1:=hm.extA ua k hk1' fun z hz y hy=>by
   have:=hk3 z hz
   unfold bq at this
   rw[if_neg (by decide),nE,decide_eq_true_iff] at this
   have:=ur (u:=ub) (n:=nb) (by lia) hbx y hy
   lia
  have hk00:k=na->∀y∈a.toList.take na,rk y<=rk bx:=fun e=>by subst e;exact hca
  generalize hkd:na - k=kd
  apply Jd (C:=fun (o:Array n8) n=>kR rk a b o n nb/\(0<n/\n<=a.size)/\n+nb+1+x+1+y<=a.size+b.size/\∀y∈a.toList.take n,rk y<=rk bx)
  ·intro T
   by_cases hk0:k=na
   ·rw[if_neg (by lia)]
    have hc:kR rk a b out na nb/\(0<na/\na<=a.size)/\na+nb+1+x+1+y<=a.size+b.size/\∀y∈a.toList.take na,rk y<=rk bx:=⟨hm,⟨za,zas⟩,by lia,hk00 hk0⟩
    revert hc
    generalize na=n
    generalize out=o
    intro hc
    exact T o n hc
   rw[if_pos (by lia)]
   by_cases e5:(k == 0)=true
   ·rw[if_pos e5]
    exact m8 ⟨⟨gl2.1,gl2.2.1,gl2.2.2.1,gl2.2.2.2⟩,.inl ⟨_,rfl,ENDA hm1 (by simpa using e5)⟩⟩
   rw[if_neg e5]
   have e5':k≠0:=by simpa using e5
   exact T _ _ ⟨hm1,⟨by lia,by lia⟩,by lia,hca⟩
  intro o n ⟨hm,⟨za,zas⟩,zp,hca⟩
  obtain ⟨ax,hax,max⟩:=Z7 (a:=a) (i:=n - 1) (by lia)
  refine i9 (N3 hbx ?_)
  have hm2:=hm.pushB ub (i:=nb - 1) (by lia) hbx hca
  by_cases e6:(nb - 1 == 1)=true
  ·rw[if_pos e6]
   exact m8 ⟨⟨gl2.1,gl2.2.1,gl2.2.2.1,gl2.2.2.2⟩,.inl ⟨_,rfl,FIRST hm2 (by simpa using e6)⟩⟩
  rw[if_neg e6]
  have e6':nb - 1≠1:=by simpa using e6
  generalize o.push bx=o2 at hm2 ⊢
  generalize hl:nb - 1=l at hm2 e6' ⊢
  refine i9 (N3 hax ?_)
  refine i9 (KW hA (gl2.1.trans hk) (ma ax max) mb ub (n:=l) (by lia) (by lia) fun j hj1 hj2 hj3=>?_)
  dsimp only
  have hcb:∀y∈b.toList.take j,rk y<=rk ax:=fun y hy=>by
   have:=hj2 y hy
   unfold bq at this
   rw[if_pos rfl,decide_eq_true_iff] at this
   lia
  have hm3:=hm2.extB ub j hj1 fun z hz y hy=>by
   have:=hj3 z hz
   unfold bq at this
   rw[if_pos rfl,decide_eq_false_iff_not] at this
   have:=ur (u:=ua) (n:=n) (by lia) hax y hy
   lia
  have hj00:j=l->∀y∈b.toList.take l,rk y<=rk ax:=fun e=>by subst e;exact hcb
  generalize hjd:l - j=jd
  apply Jd (C:=fun (o:Array n8) m=>kR rk a b o n m/\(1<m/\m<=b.size)/\n+m+1+1+x+1+y<=a.size+b.size/\∀y∈b.toList.take m,rk y<=rk ax)
  ·intro T
   by_cases hj0:j=l
   ·rw[if_neg (by lia)]
    have hc:kR rk a b o2 n l/\(1<l/\l<=b.size)/\n+l+1+1+x+1+y<=a.size+b.size/\∀y∈b.toList.take l,rk y<=rk ax:=⟨hm2,⟨by lia,by lia⟩,by lia,hj00 hj0⟩
    revert hc
    generalize l=m
    generalize o2=o
    intro hc
    exact T o m hc
   rw[if_pos (by lia)]
   by_cases e7:(j == 1)=true
   ·rw[if_pos e7]
    exact m8 ⟨⟨gl2.1,gl2.2.1,gl2.2.2.1,gl2.2.2.2⟩,.inl ⟨_,rfl,FIRST hm3 (by simpa using e7)⟩⟩
   rw[if_neg e7]
   by_cases e9:(j == 0)=true
   ·rw[if_pos e9]
    exact m8 ⟨⟨gl2.1,gl2.2.1,gl2.2.2.1,gl2.2.2.2⟩,.inl ⟨_,rfl,ENDB hm3 (by simpa using e9)⟩⟩
   rw[if_neg e9]
   have e7':j≠1:=by simpa using e7
   have e9':j≠0:=by simpa using e9
   exact T _ _ ⟨hm3,⟨by lia,by lia⟩,by lia,hcb⟩
  intro o m ⟨hm,⟨zm,zms⟩,zp,hcb⟩
  refine i9 (N3 hax ?_)
  have hm4:=hm.pushA ua (i:=n - 1) (by lia) hax hcb
  by_cases e8:(n - 1 == 0)=true
  ·rw[if_pos e8]
   exact m8 ⟨⟨gl2.1,gl2.2.1,gl2.2.2.1,gl2.2.2.2⟩,.inl ⟨_,rfl,ENDA hm4 (by simpa using e8)⟩⟩
  rw[if_neg e8]
  have e8':n - 1≠0:=by simpa using e8
  split
  ·exact m8 ⟨⟨gl2.1,gl2.2.1,gl2.2.2.1,gl2.2.2.2⟩,.inr ⟨_,_,_,_,_,_,rfl,hm4,by lia,by lia,⟨by lia,by lia⟩,by lia⟩⟩
  ·exact m8 ⟨⟨gl2.1,gl2.2.1,gl2.2.2.1,gl2.2.2.2⟩,_,_,_,_,_,_,rfl,hm4,by lia,by lia,⟨by lia,by lia⟩,by lia⟩
 ·rintro c st' ⟨_,na,nb,out,mg,ac,bc,rfl,hm,z1,z2,z4,z3⟩
  lia
 ·rintro ⟨c1,c2⟩ st2 ⟨gl2,(⟨r,hr,hf⟩|⟨na,nb,out,mg,ac,bc,e,hm,za,zb,⟨zas,zbs⟩,zp⟩)⟩
  ·dsimp only at hr
   subst hr
   exact m8 ⟨gl2,r,rfl,hf⟩
  ·cases e
   dsimp only
   refine i9 (K4 ?_)
   exact m8 ⟨⟨gl2.1,gl2.2.1,gl2.2.2.1,gl2.2.2.2⟩,_,_,_,_,rfl,hm,za,zb,zas,zbs,by lia⟩
end
theorem FU:∀(ms:List n8) (arr:Array n8) (sa k:Nat),sa+k+ms.length<=arr.size ->
  ((ms.zipIdx k).foldl (fun a (p:n8 × Nat)=>a.setIfInBounds (sa+p.2) p.1) arr).toList=arr.toList.take (sa+k)++ms++arr.toList.drop (sa+k+ms.length)
 | [],arr,sa,k,_=>by simp
 | m::ms,arr,sa,k,h=>by
  rw[qG,List.foldl_cons]
  rw[A8] at h
  have ih:=FU ms (arr.setIfInBounds (sa+k) m) sa (k+1) (by rw[Array.size_setIfInBounds];lia)
  rw[ih,Array.toList_setIfInBounds]
  have hl:sa+k<arr.toList.length:=by rw[G2];lia
  rw[A8,show sa+(k+1)=sa+k+1 by lia]
  generalize sa+k=p at hl
  generalize arr.toList=L at hl
  have e:L.set p m=(L.take p++[m])++L.drop (p+1):=by
   rw[List.set_eq_take_append_cons_drop,if_pos hl];simp
  have ln:(L.take p++[m]).length=p+1:=by rw[v9,y7];simp;lia
  rw[e,List.take_left' ln,List.drop_append,R6 (by lia),aF,ln,show p+1+ms.length - (p+1)=ms.length by lia,kM,Y2 (L.take p),show p+1+ms.length=p+(ms.length+1) by lia]
  simp
section
variable {prog:j6}{w:r9}{A:A5}{E:b9->d7->Prop}{s:d7}{rk:n8->Int}{M:n8->Prop}{κ:cM}
theorem EJ {σ:Type}{st st2:σ}{MM:lZ}{Q:PUnit->σ->Prop} (h:Q ⟨⟩ st2):wpS MM A E s (set st2:StateT σ Sem PUnit) Q st:=by
 unfold wpS
 exact d9 ⟨rfl,h⟩
theorem KS {left:Bool}{key:n8}{a:Array n8}{b n hint:Nat}{st:K6}{Q:Option Nat->K6->Prop} (hA:xk prog w A s rk M κ) (hk:kindOf st=κ) (mk:M key) (ma:∀x∈a.toList,M x) (u:Up rk ((a.toList.drop b).take n)) (hh:hint<n) (hs:b+n<=a.size)
  (h:∀k,k<=n->(∀x∈(a.toList.drop b).take k,bq rk left key x=true)->(∀x∈((a.toList.drop b).take n).drop k,bq rk left key x=false)->Q (some k) st):wpS (t8 prog w) A E s (oB left key a b n hint) Q st:=by
 have hg:∀j,j<n->a[b+j]?=some (a.getD (b+j) key):=fun j hj=>by
  rw[G1 (by lia)]
  simp[BV,show b+j<a.size by lia]
 have hL:∀j,j<n->((a.toList.drop b).take n)[j]?=some (a.getD (b+j) key):=fun j hj=>by
  rw[P7,if_pos hj,O2]
  exact O4 (hg j hj)
 refine ng (xs:=fun j=>a.getD (b+j) key) hA hk mk hh (fun j hj=>⟨hg j hj,?_⟩) (fun j1 j2 h12 h2 hb=>?_) (fun k h1 h2 h3=>h k (by lia) (fun x hx=>?_) (fun x hx=>?_))
 ·exact ma _ (C5 (O4 (hg j hj)))
 ·have hle:=u.le (hL j1 (by lia)) (hL j2 h2) (by lia)
  unfold bq at hb ⊢
  cases left with
  | true =>
   rw[if_pos rfl] at hb ⊢
   have:=of_decide_eq_true hb
   exact decide_eq_true (by lia)
  | false =>
   rw[if_neg (by decide)] at hb ⊢
   rw[Y3,decide_eq_false_iff_not] at hb ⊢
   lia
 ·obtain ⟨j,hj,hx'⟩:=oX hx
  have:=h2 j hj
  have e:=hg j (by lia)
  rw[hx'] at e
  injection e with e
  show bq rk left key x=true
  rw[e];exact this
 ·obtain ⟨j,hj⟩:=List.mem_iff_getElem?.mp hx
  rw[O2] at hj
  have hlt:k+j<n:=by
   have:=(List.getElem?_eq_some_iff.mp hj).1
   rw[y7] at this
   lia
  have:=h3 (k+j) (by lia) hlt
  rw[hL (k+j) hlt] at hj
  injection hj with hj
  show bq rk left key x=false
  rw[<- hj];exact this
theorem yo {arr:Array n8}{n1 n2 p1 p2 mg:Nat}{Q:Bool->K6->Prop} (hA:xk prog w A s rk M κ) (m:∀x∈arr.toList,M x) (h1:0<n1) (h2:0<n2) (hN:n1+n2=arr.size) (u1:Up rk (arr.toList.take n1)) (u2:Up rk (arr.toList.drop n1))
  (h:∀(arr':Array n8) (mg':Nat),arr'.toList.Perm arr.toList->Up rk arr'.toList->Q true (v7 κ arr' #[(0,n1+n2,p1)] mg' none)):wpS (t8 prog w) A E s (mergeAt' 0) Q (v7 κ arr #[(0,n1,p1),(n1,n2,p2)] mg none):=by
 have hlen:arr.toList.length=n1+n2:=by rw[G2];lia
 obtain ⟨b0,hb0,mb0⟩:=Z7 (a:=arr) (i:=n1) (by lia)
 obtain ⟨al,hal,mal⟩:=Z7 (a:=arr) (i:=n1 - 1) (by lia)
 refine i9 (Y1 ?_)
 refine i9 (EJ ?_)
 have hpend:(((#[(0,n1,p1),(n1,n2,p2)]:Array (Nat × Nat × Nat)).setIfInBounds 0 (0,n1+n2,p1)).eraseIdxIfInBounds (0+1))=#[(0,n1+n2,p1)]:=by first|rfl|simp[Array.eraseIdxIfInBounds]
 dsimp only
 rw[hpend]
 refine i9 (N3 hb0 ?_)
 have u1':Up rk ((arr.toList.drop 0).take n1):=by rw[R5];exact u1
 refine i9 (KS (b:=0) (n:=n1) (hint:=0) hA rfl (m b0 mb0) m u1' h1 (by lia) fun k hk hk2 hk3=>?_)
 rw[R5] at hk2 hk3
 have low:∀x∈arr.toList.take k,rk x<=rk b0:=fun x hx=>by
  have:=hk2 x hx
  unfold bq at this
  rw[if_neg (by decide),Y3,decide_eq_false_iff_not] at this
  lia
 have upr:∀x∈(arr.toList.take n1).drop k,rk b0<rk x:=fun x hx=>by
  have:=hk3 x hx
  unfold bq at this
  rw[if_neg (by decide),nE,decide_eq_true_iff] at this
  exact this
 have ball:∀y∈arr.toList.drop n1,rk b0<=rk y:=fun y hy=>by
  obtain ⟨j,hj⟩:=List.mem_iff_getElem?.mp hy
  exact u2.le (i:=0) (by rw[O2];exact O4 hb0) hj (u9 _)
 have aall:∀x∈arr.toList.take n1,rk x<=rk al:=fun x hx=>by
  obtain ⟨j,hj⟩:=List.mem_iff_getElem?.mp hx
  have hjl:=(List.getElem?_eq_some_iff.mp hj).1
  rw[y7] at hjl
  exact u1.le hj (j:=n1 - 1) (by rw[P7,if_pos (by lia)];exact O4 hal) (by lia)
 have whole:∀c:(∀x∈arr.toList.take n1,∀y∈arr.toList.drop n1,rk x<=rk y),Up rk arr.toList:=fun c=>by
  have:=u1.app u2 c
  rw[D1] at this
  exact this
 simp only[U7]
 by_cases e1:(n1 - k == 0)=true
 ·rw[if_pos e1]
  have e1':n1 - k=0:=by simpa using e1
  have ek:k=n1:=by lia
  refine m8 (h arr mg (bW _) (whole fun x hx y hy=>?_))
  rw[ek] at low
  exact F8 (low x hx) (ball y hy)
 rw[if_neg e1]
 have e1':n1 - k≠0:=by simpa using e1
 refine i9 (N3 (x:=al) (by rw[<- hal];congr 1;lia) ?_)
 have u2':Up rk ((arr.toList.drop n1).take n2):=u2.take n2
 refine i9 (KS (b:=n1) (n:=n2) (hint:=n2 - 1) hA rfl (m al mal) m u2' (by lia) (by lia) fun j hj hj2 hj3=>?_)
 have blow:∀y∈(arr.toList.drop n1).take j,rk y<rk al:=fun y hy=>by
  have:=hj2 y hy
  unfold bq at this
  rw[if_pos rfl,decide_eq_true_iff] at this
  exact this
 have bhi:∀y∈(arr.toList.drop n1).drop j,rk al<=rk y:=fun y hy=>by
  have:=hj3 y (by rw[K1 (by rw[M0];lia)];exact hy)
  unfold bq at this
  rw[if_pos rfl,decide_eq_false_iff_not] at this
  lia
 dsimp only
 by_cases e2:(j == 0)=true
 ·rw[if_pos e2]
  have e2':j=0:=by simpa using e2
  refine m8 (h arr mg (bW _) (whole fun x hx y hy=>?_))
  rw[e2',R5] at bhi
  exact F8 (aall x hx) (bhi y hy)
 rw[if_neg e2]
 have e2':j≠0:=by simpa using e2
 have eX:(arr.extract k n1).toList=(arr.toList.take n1).drop k:=oE _ _ _
 have eY:(arr.extract n1 (n1+j)).toList=(arr.toList.drop n1).take j:=by rw[jn,show n1+j - n1=j by lia]
 have sX:(arr.extract k n1).size=n1 - k:=by rw[BU];lia
 have sY:(arr.extract n1 (n1+j)).size=j:=by rw[BU];lia
 have FIN:∀(r:Array n8) (st':K6),Fn rk (arr.extract k n1) (arr.extract n1 (n1+j)) r->Gl (v7 κ arr #[(0,n1+n2,p1)] mg none) st'->∃(arr':Array n8),(Ej (fun a (x:n8 × Nat)=>a.setIfInBounds (k+x.2) x.1) (dJ st') r.toList.zipIdx)=arr'/\arr'.toList.Perm arr.toList/\Up rk arr'.toList:=fun r st' hf gl=>by
  obtain ⟨hp,hu⟩:=hf
  rw[eX,eY] at hp
  have hrl:r.toList.length=n1 - k+j:=by rw[hp.length_eq,v9,M0,y7,y7,M0];lia
  have hw:=FU r.toList (dJ st') k 0 (by rw[gl.2.1];show k+0+r.toList.length<=arr.size;lia)
  have ea:(dJ st').toList=arr.toList:=by rw[gl.2.1]
  rw[ea,hrl,Nat.add_zero,show k+(n1 - k+j)=n1+j by lia] at hw
  refine ⟨_,rfl,?_⟩
  have hw':(Ej (fun a (x:n8 × Nat)=>a.setIfInBounds (k+x.2) x.1) (dJ st') r.toList.zipIdx).toList=arr.toList.take k++r.toList++arr.toList.drop (n1+j):=by
   rw[<- hw]
  rw[hw']
  have eL:arr.toList=arr.toList.take k++((arr.toList.take n1).drop k++(arr.toList.drop n1).take j)++arr.toList.drop (n1+j):=by
   have q1:arr.toList.take n1=arr.toList.take k++(arr.toList.take n1).drop k:=by
    have:=(D1 k (arr.toList.take n1)).symm
    rw[uN,sS hk] at this
    exact this
   have q2:arr.toList.drop n1=(arr.toList.drop n1).take j++arr.toList.drop (n1+j):=by
    have:=(D1 j (arr.toList.drop n1)).symm
    rw[kM] at this
    exact this
   conv=>lhs;rw[<- D1 n1 arr.toList,q1,q2]
   simp only[Y2]
  constructor
  ·conv=>rhs;rw[eL]
   exact ((hp.append_left _).append_right _)
  ·have memr:∀x∈r.toList,x∈(arr.toList.take n1).drop k ∨ x∈(arr.toList.drop n1).take j:=fun x hx=>List.mem_append.mp (hp.mem_iff.mp hx)
   have hd:arr.toList.drop (n1+j)=(arr.toList.drop n1).drop j:=by rw[kM]
   have tk:Up rk (arr.toList.take k):=by
    have:=u1.take k
    rw[uN,sS hk] at this
    exact this
   refine Up.app (Up.app tk hu fun x hx y hy=>?_) (by rw[hd];exact u2.drop j) fun x hx y hy=>?_
   ·rcases memr y hy with z|z
    ·exact F8 (low x hx) (aC (upr y z))
    ·exact F8 (low x hx) (ball y (C9 z))
   ·rw[hd] at hy
    rcases List.mem_append.mp hx with z|z
    ·exact F8 (low x z) (ball y (M6 hy))
    ·rcases memr x z with z|z
     ·exact F8 (aall x (M6 z)) (bhi y hy)
     ·exact F8 (aC (blow x z)) (bhi y hy)
 have mX:∀x∈(arr.extract k n1).toList,M x:=fun x hx=>by rw[eX] at hx;exact m x (C9 (M6 hx))
 have mY:∀x∈(arr.extract n1 (n1+j)).toList,M x:=fun x hx=>by rw[eY] at hx;exact m x (M6 (C9 hx))
 have uX:Up rk (arr.extract k n1).toList:=by rw[eX];exact u1.drop k
 have uY:Up rk (arr.extract n1 (n1+j)).toList:=by rw[eY];exact u2.take j
 have h0:∀x y,(arr.extract k n1)[0]?=some x->(arr.extract n1 (n1+j))[0]?=some y->rk y<=rk x:=fun x y hx hy=>by
  have hx':x∈(arr.extract k n1).toList:=C5 (O4 hx)
  rw[eX] at hx'
  have hy':=O4 hy
  rw[eY,P7,if_pos (by lia),O2] at hy'
  have:=O4 hb0
  rw[show n1+0=n1 by lia,this] at hy'
  injection hy' with hy'
  rw[<- hy']
  exact aC (upr x hx')
 have hl:∀x,(arr.extract k n1)[(arr.extract k n1).size - 1]?=some x->∀y∈(arr.extract n1 (n1+j)).toList,rk y<=rk x:=fun x hx y hy=>by
  rw[eY] at hy
  have hx':=O4 hx
  rw[eX,O2,sX,P7,if_pos (by lia),show k+(n1 - k - 1)=n1 - 1 by lia,O4 hal] at hx'
  injection hx' with hx'
  rw[<- hx']
  exact aC (blow y hy)
 have JP:∀(r:Array n8) (st':K6),Fn rk (arr.extract k n1) (arr.extract n1 (n1+j)) r->Gl (v7 κ arr #[(0,n1+n2,p1)] mg none) st'->Q true (v7 (kindOf st') (Ej (fun a (x:n8 × Nat)=>a.setIfInBounds (k+x.2) x.1) (dJ st') r.toList.zipIdx) (Z1 st') (gallopOf st') (dY st')):=fun r st' hf gl=>by
  obtain ⟨arr',e,hp,hu⟩:=FIN r st' hf gl
  rw[e,gl.1,gl.2.2.1,gl.2.2.2]
  exact h arr' _ hp hu
 have JF:∀(st':K6),Gl (v7 κ arr #[(0,n1+n2,p1)] mg none) st'->(dY st').isNone=true:=fun st' gl=>by rw[gl.2.2.2];rfl
 split
 ·refine i9 (ym hA rfl mX mY uX uY (by rw[sX];lia) (by rw[sY];lia) h0 hl fun r st' hf gl=>?_)
  refine i9 (K4 (i9 (Y1 (m8 ?_))))
  have:=JP r st' hf gl
  rw[<- JF st' gl] at this
  exact this
 ·refine i9 (yn hA rfl mX mY uX uY (by rw[sX];lia) (by rw[sY];lia) h0 hl fun r st' hf gl=>?_)
  refine i9 (K4 (i9 (Y1 (m8 ?_))))
  have:=JP r st' hf gl
  rw[<- JF st' gl] at this
  exact this
end
noncomputable def Kv (rk:n8->Int) (arr:Array n8) (i:Nat):Int:=rk ((arr[i]?).getD (E9,E9))
variable {a:Array n8}
theorem Kv.congr {rk:n8->Int}{b:Array n8}(h:a[i]?=b[j]?):Kv rk a i=Kv rk b j:=by unfold Kv;rw[h]
noncomputable def nq (rk:n8->Int) (arr:Array n8) (lo n:Nat):Prop:=∀i j,lo<=i->i<=j->j<lo+n->Kv rk arr i<=Kv rk arr j
noncomputable def xh (rk:n8->Int) (arr:Array n8) (lo n:Nat):Prop:=∀i j,lo<=i->i<=j->j<lo+n->Kv rk arr j<=Kv rk arr i
structure cU (lo:Nat) (a b:Array n8):Prop where
 perm:b.toList.Perm a.toList
 low:∀i,i<lo->b[i]?=a[i]?
theorem cU.refl (lo:Nat) (a:Array n8):cU lo a a:=⟨bW _,fun _ _=>rfl⟩
theorem cU.trans {lo:Nat}{a b c:Array n8} (h:cU lo a b) (k:cU lo b c):cU lo a c:=⟨k.perm.trans h.perm,fun i hi=>(k.low i hi).trans (h.low i hi)⟩
theorem cU.size {lo:Nat}{a b:Array n8} (h:cU lo a b):b.size=a.size:=by have:=h.perm.length_eq;simpa using this
variable {lo:Nat}
theorem cU.mirror (hi:lo<=i) (hj:j<=a.size):cU lo a (N5 a i j ((j - i) / 2)):=
 ⟨Array.perm_iff_toList_perm.mp (mirror_perm a i j _),fun k hk=>by rw[IQ hj,if_neg (by lia)]⟩
theorem Kv.mirror {rk:n8->Int}(hj:j<=a.size) (k:Nat):Kv rk (N5 a i j ((j - i) / 2)) k=if i<=k/\k<j then Kv rk a (i+j - 1 - k) else Kv rk a k:=by
 have e:=IQ (i:=i) hj k
 by_cases h1:i<=k/\k<j
 ·rw[if_pos h1] at e ⊢;exact Kv.congr e
 ·rw[if_neg h1] at e ⊢;exact Kv.congr e
theorem gk {rk:n8->Int}(hj:j<=a.size) (heq:∀k,i<=k->k<j->Kv rk a k=Kv rk a (j - 1)) (k:Nat):Kv rk (N5 a i j ((j - i) / 2)) k=Kv rk a k:=by
 rw[Kv.mirror hj]
 split
 ·rw[heq _ (by lia) (by lia),heq k (by lia) (by lia)]
 ·rfl
theorem xh.more' {rk:n8->Int}{x:Nat} (h:xh rk a lo x) (hlt:Kv rk a (lo+x)<=Kv rk a (lo+x - 1)):xh rk a lo (x+1):=fun i j hi hij hj=>by
 by_cases hjx:j<lo+x
 ·exact h i j hi hij hjx
 ·have:j=lo+x:=by lia
  subst this
  by_cases hix:i=lo+x
  ·subst hix;exact fb _
  ·exact F8 hlt (h i (lo+x - 1) hi (by lia) (by lia))
theorem xh.more {rk:n8->Int}{x:Nat} (h:xh rk a lo x) (hlt:Kv rk a (lo+x)<Kv rk a (lo+x - 1)):xh rk a lo (x+1):=h.more' (aC hlt)
section
variable {prog:j6}{w:r9}{A:A5}{E:b9->d7->Prop}{s:d7}{rk:n8->Int}{M:n8->Prop}{κ:cM}{pd:Array (Nat × Nat × Nat)}{mg:Nat}
variable {arr:Array n8}
theorem cn {i j:Nat}{Q:Option Bool->K6->Prop} (hA:xk prog w A s rk M κ) (m:∀x∈arr.toList,M x) (hi:i<arr.size) (hj:j<arr.size) (h:Q (some (decide (Kv rk arr i<Kv rk arr j))) (v7 κ arr pd mg none)):wpS (t8 prog w) A E s (ltAt' i j) Q (v7 κ arr pd mg none):=by
 obtain ⟨x,hx,mx⟩:=Z7 (a:=arr) hi
 obtain ⟨y,hy,my⟩:=Z7 (a:=arr) hj
 have e1:Kv rk arr i=rk x:=by unfold Kv;rw[hx];rfl
 have e2:Kv rk arr j=rk y:=by unfold Kv;rw[hy];rfl
 rw[e1,e2] at h
 rw[ltAt'_eq]
 refine i9 (Y1 ?_)
 exact i9 (N3 hx (i9 (N3 hy (oV hA rfl (m x mx) (m y my) h))))
theorem js {st:K6}{lo a nrem:Nat}{f:Nat->Option (Option Nat) × Nat->StateT K6 Sem (ForInStep (Option (Option Nat) × Nat))}{Q:Option (Option Nat) × Nat->K6->Prop}
  (hstep:∀(x n:Nat) (R:ForInStep (Option (Option Nat) × Nat)->K6->Prop),1<=n->n<nrem->(Kv rk arr (lo+n)<Kv rk arr (lo+n - 1)->R (.done (none,n)) st)->(¬ Kv rk arr (lo+n)<Kv rk arr (lo+n - 1)->R (.yield (none,n+1)) st)->wpS (t8 prog w) A E s (f x (none,n)) R st)
  (ha:1<=a) (han:a<=nrem) (hs:nq rk arr lo a) (h:∀n,a<=n->n<=nrem->nq rk arr lo n->(n=nrem ∨ Kv rk arr (lo+n)<Kv rk arr (lo+n - 1))->Q (none,n) st):wpS (t8 prog w) A E s (forIn [a:nrem] (none,a) f) Q st:=by
 refine J8 (I:=fun x c st'=>st'=st/\c=(none,x)/\nq rk arr lo x) ?_ ?_ ⟨rfl,rfl,hs⟩
 ·rintro x c st' hax hxn ⟨rfl,rfl,hs'⟩
  refine hstep x x _ (by lia) hxn (fun hlt=>h x hax (by lia) hs' (.inr hlt)) (fun hlt=>⟨rfl,rfl,fun i j hi hij hj=>?_⟩)
  by_cases hjx:j<lo+x
  ·exact hs' i j hi hij hjx
  ·have hj':j=lo+x:=by lia
   subst hj'
   by_cases hi':i=lo+x
   ·subst hi';exact fb _
   ·exact F8 (hs' i (lo+x - 1) hi (by lia) (by lia)) (Int.not_lt.mp hlt)
 ·rintro c st' ⟨rfl,rfl,hs'⟩
  rw[show max a nrem=nrem by lia] at hs' ⊢
  exact h nrem han (i8 _) hs' (.inl rfl)
theorem jq {lo nrem:Nat}{Q:Option Nat->K6->Prop} (hA:xk prog w A s rk M κ) (m:∀x∈arr.toList,M x) (h1:1<=nrem) (hN:lo+nrem<=arr.size)
  (h:∀(arr':Array n8) (n:Nat),1<=n->n<=nrem->cU lo arr arr'->nq rk arr' lo n->Q (some n) (v7 κ arr' pd mg none)):wpS (t8 prog w) A E s (countRun' lo nrem) Q (v7 κ arr pd mg none):=by
 have one:nq rk arr lo 1:=fun i j hi hij hj=>by
  have:i=j:=by lia
  subst this;exact fb _
 refine i9 (js (arr:=arr) (lo:=lo) ?_ (i8 1) h1 one fun n hn1 hn2 hs hend=>?_)
 ·intro x n R hn hnn r1 r2
  dsimp only
  refine i9 (cn hA m (by lia) (by lia) ?_)
  by_cases hlt:Kv rk arr (lo+n)<Kv rk arr (lo+n - 1)
  ·rw[decide_eq_true hlt];exact m8 (r1 hlt)
  ·rw[decide_eq_false hlt];exact m8 (r2 hlt)
 dsimp only
 by_cases e1:(n == nrem)=true
 ·rw[if_pos e1]
  exact m8 (h arr n hn1 hn2 (cU.refl lo arr) hs)
 rw[if_neg e1]
 have e1':n≠nrem:=by simpa using e1
 have hlt:=hend.resolve_left e1'
 by_cases hn:n > 1
 ·rw[if_pos hn]
  refine i9 (cn hA m (by lia) (by lia) ?_)
  by_cases hrose:Kv rk arr lo<Kv rk arr (lo+n - 1)
  ·rw[decide_eq_true hrose]
   exact m8 (h arr n hn1 hn2 (cU.refl lo arr) hs)
  rw[decide_eq_false hrose]
  dsimp only
  rw[if_neg (by decide)]
  refine i9 (K4 ?_)
  have alleq:∀k,lo<=k->k<lo+n->Kv rk arr k=Kv rk arr (lo+n - 1):=fun k hk1 hk2=>by
   have a1:=hs lo k (i8 _) hk1 hk2
   have a2:=hs k (lo+n - 1) hk1 (by lia) (by lia)
   lia
  have eqv:=gk (rk:=rk) (a:=arr) (i:=lo) (j:=lo+n) (by lia) alleq
  have k1:cU lo arr (N5 arr lo (lo+n) ((lo+n - lo) / 2)):=cU.mirror (i8 _) (by lia)
  have d1:xh rk (N5 arr lo (lo+n) ((lo+n - lo) / 2)) lo (n+1):=by
   refine xh.more (fun i j hi hij hj=>?_) (by rw[eqv,eqv];exact hlt)
   rw[eqv,eqv,alleq i hi (by lia),alleq j (by lia) (by lia)]
   exact fb _
  show wpS _ _ _ _ _ _ (v7 κ (N5 arr lo (lo+n) ((lo+n - lo) / 2)) pd mg none)
  generalize N5 arr lo (lo+n) ((lo+n - lo) / 2)=arr1 at k1 d1
  refine i9 (fM (P1 ⟨rfl,?_⟩))
  refine i9 (W7 (J8 (I:=fun x c st'=>∃arr2 neq,c=(none,x,neq)/\st'=v7 κ arr2 pd mg none/\cU lo arr arr2/\xh rk arr2 lo x/\neq+1<=x/\(∀i,lo+x - (neq+1)<=i->i<lo+x->Kv rk arr2 i=Kv rk arr2 (lo+x - 1)))
   (Q:=fun c st'=>∃arr2 n2 neq,c=(none,n2,neq)/\st'=v7 κ arr2 pd mg none/\cU lo arr arr2/\xh rk arr2 lo n2/\neq+1<=n2/\(∀i,lo+n2 - (neq+1)<=i->i<lo+n2->Kv rk arr2 i=Kv rk arr2 (lo+n2 - 1))/\n+1<=n2/\n2<=nrem) ?_ ?_ ⟨_,0,rfl,rfl,k1,d1,by lia,fun i hi hi2=>by congr 1;lia⟩) ?_)
  ·rintro x c st' hnx hx ⟨arr2,neq,rfl,rfl,k2,d2,q1,q2⟩
   have m2:∀x∈arr2.toList,M x:=fun x hx=>m x (k2.perm.mem_iff.mp hx)
   have z2:=k2.size
   dsimp only
   refine i9 (cn hA m2 (by lia) (by lia) ?_)
   by_cases hlt:Kv rk arr2 (lo+x)<Kv rk arr2 (lo+x - 1)
   ·rw[decide_eq_true hlt]
    dsimp only
    rw[if_pos rfl]
    by_cases hq:neq > 0
    ·rw[if_pos hq]
     refine i9 (K4 (m8 ⟨_,0,rfl,rfl,k2.trans (cU.mirror (by lia) (by lia)),?_,by lia,fun i hi hi2=>by congr 1;lia⟩))
     have eqv:=gk (rk:=rk) (a:=arr2) (i:=lo+x - (neq+1)) (j:=lo+x) (by lia) q2
     intro i j hi hij hj
     show Kv rk (N5 arr2 _ _ _) j<=Kv rk (N5 arr2 _ _ _) i
     rw[eqv,eqv]
     exact d2.more hlt i j hi hij (by lia)
    ·rw[if_neg hq]
     exact m8 ⟨arr2,0,rfl,rfl,k2,fun i j hi hij hj=>d2.more hlt i j hi hij (by lia),by lia,fun i hi hi2=>by congr 1;lia⟩
   ·rw[decide_eq_false hlt]
    dsimp only
    rw[if_neg (by decide)]
    refine i9 (cn hA m2 (by lia) (by lia) ?_)
    by_cases hgt:Kv rk arr2 (lo+x - 1)<Kv rk arr2 (lo+x)
    ·rw[decide_eq_true hgt]
     dsimp only
     rw[if_pos rfl]
     exact m8 ⟨arr2,x,neq,rfl,rfl,k2,d2,q1,q2,hnx,by lia⟩
    ·rw[decide_eq_false hgt]
     dsimp only
     rw[if_neg (by decide)]
     have heq:Kv rk arr2 (lo+x)=Kv rk arr2 (lo+x - 1):=by lia
     refine m8 ⟨arr2,neq+1,rfl,rfl,k2,fun i j hi hij hj=>?_,by lia,fun i hi hi2=>?_⟩
     ·exact d2.more' (by lia) i j hi hij (by lia)
     ·rw[show lo+(x+1) - 1=lo+x by lia,heq]
      by_cases hix:i=lo+x
      ·rw[hix,heq]
      ·exact q2 i (by lia) (by lia)
  ·rintro c st' ⟨arr2,neq,rfl,rfl,k2,d2,q1,q2⟩
   rw[show max (n+1) nrem=nrem by lia] at d2 q1 q2 ⊢
   exact ⟨arr2,nrem,neq,rfl,rfl,k2,d2,q1,q2,by lia,i8 _⟩
  ·rintro c st' ⟨arr2,n2,neq,rfl,rfl,k2,d2,q1,q2,hn2a,hn2b⟩
   have z2:=k2.size
   dsimp only
   by_cases hq:neq > 0
   ·rw[if_pos hq]
    refine i9 (K4 ?_)
    have eqv:=gk (rk:=rk) (a:=arr2) (i:=lo+n2 - (neq+1)) (j:=lo+n2) (by lia) q2
    have k4:cU lo arr (N5 arr2 (lo+n2 - (neq+1)) (lo+n2) ((lo+n2 - (lo+n2 - (neq+1))) / 2)):=k2.trans (cU.mirror (by lia) (by lia))
    have d4:xh rk (N5 arr2 (lo+n2 - (neq+1)) (lo+n2) ((lo+n2 - (lo+n2 - (neq+1))) / 2)) lo n2:=fun i j hi hij hj=>by rw[eqv,eqv];exact d2 i j hi hij hj
    show wpS _ _ _ _ _ _ (v7 κ (N5 arr2 (lo+n2 - (neq+1)) (lo+n2) ((lo+n2 - (lo+n2 - (neq+1))) / 2)) pd mg none)
    generalize N5 arr2 (lo+n2 - (neq+1)) (lo+n2) ((lo+n2 - (lo+n2 - (neq+1))) / 2)=arr4 at k4 d4
    refine i9 (K4 ?_)
    have k5:cU lo arr (N5 arr4 lo (lo+n2) ((lo+n2 - lo) / 2)):=k4.trans (cU.mirror (i8 _) (by rw[k4.size];lia))
    have s5:nq rk (N5 arr4 lo (lo+n2) ((lo+n2 - lo) / 2)) lo n2:=fun i j hi hij hj=>by
     rw[Kv.mirror (by rw[k4.size];lia),Kv.mirror (by rw[k4.size];lia),if_pos (by lia),if_pos (by lia)]
     exact d4 _ _ (by lia) (by lia) (by lia)
    have m5:∀x∈(N5 arr4 lo (lo+n2) ((lo+n2 - lo) / 2)).toList,M x:=fun x hx=>m x (k5.perm.mem_iff.mp hx)
    have z5:=k5.size
    show wpS _ _ _ _ _ _ (v7 κ (N5 arr4 lo (lo+n2) ((lo+n2 - lo) / 2)) pd mg none)
    generalize N5 arr4 lo (lo+n2) ((lo+n2 - lo) / 2)=arr5 at k5 s5 m5 z5
    refine i9 (js (arr:=arr5) (lo:=lo) ?_ (by lia) (by lia) s5 fun n3 hn31 hn32 hs3 _=>m8 (h arr5 n3 (by lia) hn32 k5 hs3))
    intro x n R hn hnn r1 r2
    dsimp only
    refine i9 (cn hA m5 (by lia) (by lia) ?_)
    by_cases hlt:Kv rk arr5 (lo+n)<Kv rk arr5 (lo+n - 1)
    ·rw[decide_eq_true hlt];exact m8 (r1 hlt)
    ·rw[decide_eq_false hlt];exact m8 (r2 hlt)
   ·rw[if_neg hq]
    have k4:=k2
    have d4:=d2
    generalize arr2=arr4 at k4 d4
    refine i9 (K4 ?_)
    have k5:cU lo arr (N5 arr4 lo (lo+n2) ((lo+n2 - lo) / 2)):=k4.trans (cU.mirror (i8 _) (by rw[k4.size];lia))
    have s5:nq rk (N5 arr4 lo (lo+n2) ((lo+n2 - lo) / 2)) lo n2:=fun i j hi hij hj=>by
     rw[Kv.mirror (by rw[k4.size];lia),Kv.mirror (by rw[k4.size];lia),if_pos (by lia),if_pos (by lia)]
     exact d4 _ _ (by lia) (by lia) (by lia)
    have m5:∀x∈(N5 arr4 lo (lo+n2) ((lo+n2 - lo) / 2)).toList,M x:=fun x hx=>m x (k5.perm.mem_iff.mp hx)
    have z5:=k5.size
    show wpS _ _ _ _ _ _ (v7 κ (N5 arr4 lo (lo+n2) ((lo+n2 - lo) / 2)) pd mg none)
    generalize N5 arr4 lo (lo+n2) ((lo+n2 - lo) / 2)=arr5 at k5 s5 m5 z5
    refine i9 (js (arr:=arr5) (lo:=lo) ?_ (by lia) (by lia) s5 fun n3 hn31 hn32 hs3 _=>m8 (h arr5 n3 (by lia) hn32 k5 hs3))
    intro x n R hn hnn r1 r2
    dsimp only
    refine i9 (cn hA m5 (by lia) (by lia) ?_)
    by_cases hlt:Kv rk arr5 (lo+n)<Kv rk arr5 (lo+n - 1)
    ·rw[decide_eq_true hlt];exact m8 (r1 hlt)
    ·rw[decide_eq_false hlt];exact m8 (r2 hlt)
 rw[if_neg hn]
 have k1:cU lo arr arr:=cU.refl lo arr
 have en:n=1:=by lia
 have d1:xh rk arr lo (n+1):=by
  refine xh.more (fun i j hi hij hj=>?_) hlt
  have:i=j:=by lia
  subst this;exact fb _
 refine i9 (fM (P1 ⟨rfl,?_⟩))
 refine i9 (W7 (J8 (I:=fun x c st'=>∃arr2 neq,c=(none,x,neq)/\st'=v7 κ arr2 pd mg none/\cU lo arr arr2/\xh rk arr2 lo x/\neq+1<=x/\(∀i,lo+x - (neq+1)<=i->i<lo+x->Kv rk arr2 i=Kv rk arr2 (lo+x - 1)))
  (Q:=fun c st'=>∃arr2 n2 neq,c=(none,n2,neq)/\st'=v7 κ arr2 pd mg none/\cU lo arr arr2/\xh rk arr2 lo n2/\neq+1<=n2/\(∀i,lo+n2 - (neq+1)<=i->i<lo+n2->Kv rk arr2 i=Kv rk arr2 (lo+n2 - 1))/\n+1<=n2/\n2<=nrem) ?_ ?_ ⟨_,0,rfl,rfl,k1,d1,by lia,fun i hi hi2=>by congr 1;lia⟩) ?_)
 ·rintro x c st' hnx hx ⟨arr2,neq,rfl,rfl,k2,d2,q1,q2⟩
  have m2:∀x∈arr2.toList,M x:=fun x hx=>m x (k2.perm.mem_iff.mp hx)
  have z2:=k2.size
  dsimp only
  refine i9 (cn hA m2 (by lia) (by lia) ?_)
  by_cases hlt:Kv rk arr2 (lo+x)<Kv rk arr2 (lo+x - 1)
  ·rw[decide_eq_true hlt]
   dsimp only
   rw[if_pos rfl]
   by_cases hq:neq > 0
   ·rw[if_pos hq]
    refine i9 (K4 (m8 ⟨_,0,rfl,rfl,k2.trans (cU.mirror (by lia) (by lia)),?_,by lia,fun i hi hi2=>by congr 1;lia⟩))
    have eqv:=gk (rk:=rk) (a:=arr2) (i:=lo+x - (neq+1)) (j:=lo+x) (by lia) q2
    intro i j hi hij hj
    show Kv rk (N5 arr2 _ _ _) j<=Kv rk (N5 arr2 _ _ _) i
    rw[eqv,eqv]
    exact d2.more hlt i j hi hij (by lia)
   ·rw[if_neg hq]
    exact m8 ⟨arr2,0,rfl,rfl,k2,fun i j hi hij hj=>d2.more hlt i j hi hij (by lia),by lia,fun i hi hi2=>by congr 1;lia⟩
  ·rw[decide_eq_false hlt]
   dsimp only
   rw[if_neg (by decide)]
   refine i9 (cn hA m2 (by lia) (by lia) ?_)
   by_cases hgt:Kv rk arr2 (lo+x - 1)<Kv rk arr2 (lo+x)
   ·rw[decide_eq_true hgt]
    dsimp only
    rw[if_pos rfl]
    exact m8 ⟨arr2,x,neq,rfl,rfl,k2,d2,q1,q2,hnx,by lia⟩
   ·rw[decide_eq_false hgt]
    dsimp only
    rw[if_neg (by decide)]
    have heq:Kv rk arr2 (lo+x)=Kv rk arr2 (lo+x - 1):=by lia
    refine m8 ⟨arr2,neq+1,rfl,rfl,k2,fun i j hi hij hj=>?_,by lia,fun i hi hi2=>?_⟩
    ·exact d2.more' (by lia) i j hi hij (by lia)
    ·rw[show lo+(x+1) - 1=lo+x by lia,heq]
     by_cases hix:i=lo+x
     ·rw[hix,heq]
     ·exact q2 i (by lia) (by lia)
 ·rintro c st' ⟨arr2,neq,rfl,rfl,k2,d2,q1,q2⟩
  rw[show max (n+1) nrem=nrem by lia] at d2 q1 q2 ⊢
  exact ⟨arr2,nrem,neq,rfl,rfl,k2,d2,q1,q2,by lia,i8 _⟩
 ·rintro c st' ⟨arr2,n2,neq,rfl,rfl,k2,d2,q1,q2,hn2a,hn2b⟩
  have z2:=k2.size
  dsimp only
  by_cases hq:neq > 0
  ·rw[if_pos hq]
   refine i9 (K4 ?_)
   have eqv:=gk (rk:=rk) (a:=arr2) (i:=lo+n2 - (neq+1)) (j:=lo+n2) (by lia) q2
   have k4:cU lo arr (N5 arr2 (lo+n2 - (neq+1)) (lo+n2) ((lo+n2 - (lo+n2 - (neq+1))) / 2)):=k2.trans (cU.mirror (by lia) (by lia))
   have d4:xh rk (N5 arr2 (lo+n2 - (neq+1)) (lo+n2) ((lo+n2 - (lo+n2 - (neq+1))) / 2)) lo n2:=fun i j hi hij hj=>by rw[eqv,eqv];exact d2 i j hi hij hj
   show wpS _ _ _ _ _ _ (v7 κ (N5 arr2 (lo+n2 - (neq+1)) (lo+n2) ((lo+n2 - (lo+n2 - (neq+1))) / 2)) pd mg none)
   generalize N5 arr2 (lo+n2 - (neq+1)) (lo+n2) ((lo+n2 - (lo+n2 - (neq+1))) / 2)=arr4 at k4 d4
   refine i9 (K4 ?_)
   have k5:cU lo arr (N5 arr4 lo (lo+n2) ((lo+n2 - lo) / 2)):=k4.trans (cU.mirror (i8 _) (by rw[k4.size];lia))
   have s5:nq rk (N5 arr4 lo (lo+n2) ((lo+n2 - lo) / 2)) lo n2:=fun i j hi hij hj=>by
    rw[Kv.mirror (by rw[k4.size];lia),Kv.mirror (by rw[k4.size];lia),if_pos (by lia),if_pos (by lia)]
    exact d4 _ _ (by lia) (by lia) (by lia)
   have m5:∀x∈(N5 arr4 lo (lo+n2) ((lo+n2 - lo) / 2)).toList,M x:=fun x hx=>m x (k5.perm.mem_iff.mp hx)
   have z5:=k5.size
   show wpS _ _ _ _ _ _ (v7 κ (N5 arr4 lo (lo+n2) ((lo+n2 - lo) / 2)) pd mg none)
   generalize N5 arr4 lo (lo+n2) ((lo+n2 - lo) / 2)=arr5 at k5 s5 m5 z5
   refine i9 (js (arr:=arr5) (lo:=lo) ?_ (by lia) (by lia) s5 fun n3 hn31 hn32 hs3 _=>m8 (h arr5 n3 (by lia) hn32 k5 hs3))
   intro x n R hn hnn r1 r2
   dsimp only
   refine i9 (cn hA m5 (by lia) (by lia) ?_)
   by_cases hlt:Kv rk arr5 (lo+n)<Kv rk arr5 (lo+n - 1)
   ·rw[decide_eq_true hlt];exact m8 (r1 hlt)
   ·rw[decide_eq_false hlt];exact m8 (r2 hlt)
  ·rw[if_neg hq]
   have k4:=k2
   have d4:=d2
   generalize arr2=arr4 at k4 d4
   refine i9 (K4 ?_)
   have k5:cU lo arr (N5 arr4 lo (lo+n2) ((lo+n2 - lo) / 2)):=k4.trans (cU.mirror (i8 _) (by rw[k4.size];lia))
   have s5:nq rk (N5 arr4 lo (lo+n2) ((lo+n2 - lo) / 2)) lo n2:=fun i j hi hij hj=>by
    rw[Kv.mirror (by rw[k4.size];lia),Kv.mirror (by rw[k4.size];lia),if_pos (by lia),if_pos (by lia)]
    exact d4 _ _ (by lia) (by lia) (by lia)
   have m5:∀x∈(N5 arr4 lo (lo+n2) ((lo+n2 - lo) / 2)).toList,M x:=fun x hx=>m x (k5.perm.mem_iff.mp hx)
   have z5:=k5.size
   show wpS _ _ _ _ _ _ (v7 κ (N5 arr4 lo (lo+n2) ((lo+n2 - lo) / 2)) pd mg none)
   generalize N5 arr4 lo (lo+n2) ((lo+n2 - lo) / 2)=arr5 at k5 s5 m5 z5
   refine i9 (js (arr:=arr5) (lo:=lo) ?_ (by lia) (by lia) s5 fun n3 hn31 hn32 hs3 _=>m8 (h arr5 n3 (by lia) hn32 k5 hs3))
   intro x n R hn hnn r1 r2
   dsimp only
   refine i9 (cn hA m5 (by lia) (by lia) ?_)
   by_cases hlt:Kv rk arr5 (lo+n)<Kv rk arr5 (lo+n - 1)
   ·rw[decide_eq_true hlt];exact m8 (r1 hlt)
   ·rw[decide_eq_false hlt];exact m8 (r2 hlt)
end
theorem cU.bubble {lo src d:Nat}{a:Array n8} (hs:src<a.size) (hd:lo+d<=src):cU lo a (bubble a src d):=
 ⟨Array.perm_iff_toList_perm.mp (bubble_perm a src d),fun k hk=>by rw[getElem?_bubble hs d (by lia),if_neg (by lia),if_neg (by lia)]⟩
theorem Kv.bubble {rk:n8->Int}{a:Array n8}{src d:Nat} (hs:src<a.size) (hd:d<=src) (k:Nat):Kv rk (bubble a src d) k=if k=src - d then Kv rk a src else if src - d<k/\k<=src then Kv rk a (k - 1) else Kv rk a k:=by
 have e:=getElem?_bubble hs d hd k
 by_cases h1:k=src - d
 ·rw[if_pos h1] at e ⊢;exact Kv.congr e
 ·rw[if_neg h1] at e ⊢
  by_cases h2:src - d<k/\k<=src
  ·rw[if_pos h2] at e ⊢;exact Kv.congr e
  ·rw[if_neg h2] at e ⊢;exact Kv.congr e
section
variable {prog:j6}{w:r9}{A:A5}{E:b9->d7->Prop}{s:d7}{rk:n8->Int}{M:n8->Prop}{κ:cM}{pd:Array (Nat × Nat × Nat)}{mg:Nat}
theorem fR {arr:Array n8}{lo n ok:Nat}{Q:Bool->K6->Prop} (hA:xk prog w A s rk M κ) (m:∀x∈arr.toList,M x) (h1:1<=ok) (h2:ok<=n) (hN:lo+n<=arr.size) (hs:nq rk arr lo ok)
  (h:∀(arr':Array n8),cU lo arr arr'->nq rk arr' lo n->Q true (v7 κ arr' pd mg none)):wpS (t8 prog w) A E s (binarySort' lo n ok) Q (v7 κ arr pd mg none):=by
 refine i9 (W7 (J8 (I:=fun k c st'=>c=(none,())/\∃arr2,st'=v7 κ arr2 pd mg none/\cU lo arr arr2/\nq rk arr2 lo k) (Q:=fun c st'=>c=(none,())/\∃arr2,st'=v7 κ arr2 pd mg none/\cU lo arr arr2/\nq rk arr2 lo n) ?_ ?_ ⟨rfl,arr,rfl,cU.refl lo arr,by rw[IY h1];exact hs⟩) ?_)
 ·rintro k c st' hk1 hk2 ⟨rfl,arr2,rfl,k2,s2⟩
  have z2:=k2.size
  have m2:∀x∈arr2.toList,M x:=fun x hx=>m x (k2.perm.mem_iff.mp hx)
  rw[IY h1] at hk1
  dsimp only
  refine i9 (W7 (J8 (I:=fun x c st'=>st'=v7 κ arr2 pd mg none/\∃l r,c=(none,l,r)/\l<=r/\r<=k/\r - l<=k - x/\(∀i,i<l->Kv rk arr2 (lo+i)<=Kv rk arr2 (lo+k))/\(∀i,r<=i->i<k->Kv rk arr2 (lo+k)<=Kv rk arr2 (lo+i)))
   (Q:=fun c st'=>st'=v7 κ arr2 pd mg none/\∃l,c=(none,l,l)/\l<=k/\(∀i,i<l->Kv rk arr2 (lo+i)<=Kv rk arr2 (lo+k))/\(∀i,l<=i->i<k->Kv rk arr2 (lo+k)<=Kv rk arr2 (lo+i))) ?_ ?_ ⟨rfl,0,k,rfl,u9 _,i8 _,by lia,fun i hi=>by lia,fun i hi hi2=>by lia⟩) ?_)
  ·rintro x c st' _ hx ⟨rfl,l,r,rfl,a1,a2,a3,a4,a5⟩
   dsimp only
   by_cases hge:l ≥ r
   ·rw[if_pos hge]
    have e:l=r:=by lia
    subst e
    exact m8 ⟨rfl,l,rfl,a2,a4,a5⟩
   rw[if_neg hge]
   refine i9 (cn hA m2 (by lia) (by lia) ?_)
   by_cases hlt:Kv rk arr2 (lo+k)<Kv rk arr2 (lo+(l+r) / 2)
   ·rw[decide_eq_true hlt]
    refine m8 ⟨rfl,l,(l+r) / 2,rfl,by lia,by lia,by lia,a4,fun i hi hi2=>?_⟩
    exact F8 (aC hlt) (s2 _ _ (by lia) (by lia) (by lia))
   ·rw[decide_eq_false hlt]
    refine m8 ⟨rfl,(l+r) / 2+1,r,rfl,by lia,a2,by lia,fun i hi=>?_,a5⟩
    exact F8 (s2 _ (lo+(l+r) / 2) (by lia) (by lia) (by lia)) (Int.not_lt.mp hlt)
  ·rintro c st' ⟨rfl,l,r,rfl,a1,a2,a3,a4,a5⟩
   have e:l=r:=by lia
   subst e
   exact ⟨rfl,l,rfl,a2,a4,a5⟩
  ·rintro c st' ⟨rfl,l,rfl,a2,a4,a5⟩
   dsimp only
   refine i9 (K4 (m8 ⟨rfl,_,rfl,k2.trans (cU.bubble (src:=lo+k) (d:=lo+k - (lo+l)) (by lia) (by lia)),?_⟩))
   intro i j hi hij hj
   show Kv rk (bubble arr2 (lo+k) (lo+k - (lo+l))) i<=Kv rk (bubble arr2 (lo+k) (lo+k - (lo+l))) j
   rw[Kv.bubble (by lia) (by lia),Kv.bubble (by lia) (by lia),show lo+k - (lo+k - (lo+l))=lo+l by lia]
   by_cases c1:i=lo+l
   ·rw[if_pos c1]
    by_cases c2:j=lo+l
    ·rw[if_pos c2];exact fb _
    ·rw[if_neg c2,if_pos (by lia)]
     have:=a5 (j - 1 - lo) (by lia) (by lia)
     rw[show lo+(j - 1 - lo)=j - 1 by lia] at this
     exact this
   ·rw[if_neg c1]
    by_cases c3:lo+l<i/\i<=lo+k
    ·rw[if_pos c3,if_neg (by lia),if_pos (by lia)]
     exact s2 _ _ (by lia) (by lia) (by lia)
    ·rw[if_neg c3]
     by_cases c2:j=lo+l
     ·rw[if_pos c2]
      have:=a4 (i - lo) (by lia)
      rw[show lo+(i - lo)=i by lia] at this
      exact this
     ·rw[if_neg c2]
      by_cases c4:lo+l<j/\j<=lo+k
      ·rw[if_pos c4]
       exact s2 _ _ hi (by lia) (by lia)
      ·rw[if_neg c4]
       exact s2 _ _ hi hij (by lia)
 ·rintro c st' ⟨rfl,arr2,rfl,k2,s2⟩
  rw[show max (max ok 1) n=n by lia] at s2
  exact ⟨rfl,arr2,rfl,k2,s2⟩
 ·rintro c st' ⟨rfl,arr2,rfl,k2,s2⟩
  exact m8 (h arr2 k2 s2)
end
theorem yl {N:Nat} (h1:64<=N) (h2:N<128):Ls N N 0=N / 2+N % 2:=by
 obtain ⟨f,hf⟩:∃f,N=f+2:=⟨N - 2,by lia⟩
 have:Ls (f+2) N 0=N / 2+N % 2:=by
  rw[Ew,if_neg (by lia),Ew,if_pos (by lia)]
  lia
 rw[<- hf] at this
 exact this
theorem tD {rk:n8->Int}{arr:Array n8}{n:Nat} (h:nq rk arr lo n) (hN:lo+n<=arr.size):Up rk ((arr.toList.drop lo).take n):=by
 refine List.pairwise_iff_getElem.mpr fun i j hi hj hij=>?_
 have hj':j<n:=by rw[y7] at hj;lia
 have e:∀k (hk:k<((arr.toList.drop lo).take n).length),rk (((arr.toList.drop lo).take n)[k])=Kv rk arr (lo+k):=fun k hk=>by
  have hk':k<n:=by rw[y7] at hk;lia
  have e1:((arr.toList.drop lo).take n)[k]?=arr[lo+k]?:=by rw[P7,if_pos hk',O2];simp
  unfold Kv
  rw[<- e1,f6 hk];rfl
 rw[e i hi,e j hj]
 exact h _ _ (by lia) (by lia) (by lia)
theorem nq.low {rk:n8->Int}{a b:Array n8}{lo n:Nat} (h:nq rk a 0 n) (k:cU lo a b) (hn:n<=lo):nq rk b 0 n:=fun i j hi hij hj=>by
 rw[Kv.congr (k.low i (by lia)),Kv.congr (k.low j (by lia))]
 exact h i j hi hij hj
theorem cU.weak {b:Array n8} (h:cU lo a b):cU 0 a b:=⟨h.perm,fun i hi=>absurd hi (Nat.not_lt_zero i)⟩
section
variable {prog:j6}{w:r9}{A:A5}{E:b9->d7->Prop}{s:d7}{rk:n8->Int}{M:n8->Prop}{κ:cM}
theorem vp {arr:Array n8}{Q:Unit->K6->Prop} (hA:xk prog w A s rk M κ) (m:∀x∈arr.toList,M x) (h64:64<=arr.size) (h128:arr.size<128)
  (h:∀st',(dJ st').toList.Perm arr.toList->dY st'=none->Up rk (dJ st').toList->Q () st'):wpS (t8 prog w) A E s LP Q (v7 κ arr #[] 7 none):=by
 rw[sortRuns'_eq]
 refine i9 (Y1 ?_)
 dsimp only
 have hmr:=yl h64 h128
 obtain ⟨N,eN⟩:∃N,N=arr.size:=⟨_,rfl⟩
 obtain ⟨mr,emr⟩:∃mr,mr=N / 2+N % 2:=⟨_,rfl⟩
 rw[<- eN] at hmr h64 h128
 rw[<- emr] at hmr
 simp only[<- eN,hmr]
 refine i9 (W7 (J8
  (I:=fun x c st'=>(x=0/\c=(none,0)/\st'=v7 κ arr #[] 7 none) ∨ (1<=x/\∃n arr2,c=(none,n)/\st'=v7 κ arr2 #[(0,n,0)] 7 none/\mr<=n/\n<=N/\cU 0 arr arr2/\nq rk arr2 0 n/\(n=N ∨ x=1)) ∨ (2<=x/\∃n pw arr2,c=(none,N)/\st'=v7 κ arr2 #[(0,n,pw),(n,N - n,0)] 7 none/\mr<=n/\n<N/\cU 0 arr arr2/\nq rk arr2 0 n/\nq rk arr2 n (N - n)))
  (Q:=fun c st'=>c.1=none/\((∃arr2,st'=v7 κ arr2 #[(0,N,0)] 7 none/\cU 0 arr arr2/\nq rk arr2 0 N) ∨ (∃n pw arr2,st'=v7 κ arr2 #[(0,n,pw),(n,N - n,0)] 7 none/\mr<=n/\n<N/\cU 0 arr arr2/\nq rk arr2 0 n/\nq rk arr2 n (N - n)))) ?_ ?_ (.inl ⟨rfl,rfl,rfl⟩)) ?_)
 ·rintro x c st' _ hx (⟨rfl,rfl,rfl⟩|⟨hx1,n,arr2,rfl,rfl,hn1,hn2,k2,s2,hnx⟩|⟨hx2,n,pw,arr2,rfl,rfl,hn1,hn2,k2,s2,s3⟩)
  ·dsimp only
   rw[if_neg (by lia)]
   simp only[oS,U7]
   refine i9 (jq hA m (by lia) (by lia) fun arr2 n hn1 hn2 k2 s2=>?_)
   have m2:∀x∈arr2.toList,M x:=fun x hx=>m x (k2.perm.mem_iff.mp hx)
   have z2:=k2.size
   dsimp only
   by_cases hlt:n<mr
   ·rw[if_pos hlt]
    refine i9 (fM (P1 ⟨rfl,?_⟩))
    refine i9 (fR hA m2 hn1 (by lia) (by lia) s2 fun arr3 k3 s3=>?_)
    simp only[iG,P8,if_false]
    refine i9 (Y1 ?_)
    have hb:(Z1 (v7 κ arr3 #[] 7 none)).back?=none:=rfl
    rw[hb]
    dsimp only
    exact i9 (K4 (m8 (.inr (.inl ⟨by lia,min N mr,arr3,rfl,rfl,by lia,by lia,k2.trans k3,s3,.inr (by first|rfl|trivial)⟩))))
   ·rw[if_neg hlt]
    refine i9 (Y1 ?_)
    have hb:(Z1 (v7 κ arr2 #[] 7 none)).back?=none:=rfl
    rw[hb]
    dsimp only
    exact i9 (K4 (m8 (.inr (.inl ⟨by lia,n,arr2,rfl,rfl,by lia,hn2,k2,s2,.inr (by first|rfl|trivial)⟩))))
  ·dsimp only
   by_cases hnN:n ≥ N
   ·rw[if_pos hnN]
    have e:n=N:=by lia
    subst e
    exact m8 ⟨rfl,.inl ⟨arr2,rfl,k2,s2⟩⟩
   rw[if_neg hnN]
   have m2:∀x∈arr2.toList,M x:=fun x hx=>m x (k2.perm.mem_iff.mp hx)
   have z2:=k2.size
   refine i9 (jq hA m2 (by lia) (by lia) fun arr3 n3 hn31 hn32 k3 s3=>?_)
   have m3:∀x∈arr3.toList,M x:=fun x hx=>m2 x (k3.perm.mem_iff.mp hx)
   have z3:=k3.size
   dsimp only
   by_cases hlt:n3<mr
   ·rw[if_pos hlt]
    refine i9 (fM (P1 ⟨rfl,?_⟩))
    simp only[show min (N - n) mr=N - n by lia]
    refine i9 (fR hA m3 hn31 (by lia) (by lia) s3 fun arr4 k4 s4=>?_)
    simp only[iG,P8,if_false]
    refine i9 (Y1 ?_)
    have hb:(Z1 (v7 κ arr4 #[(0,n,0)] 7 none)).back?=some (0,n,0):=rfl
    rw[hb]
    dsimp only
    refine i9 (W7 (J8 (I:=fun _ c st'=>c=(none,())/\st'=v7 κ arr4 #[(0,n,0)] 7 none) (Q:=fun c st'=>c=(none,())/\st'=v7 κ arr4 #[(0,n,0)] 7 none) ?_ (fun _ _ z=>z) ⟨rfl,rfl⟩) ?_)
    ·rintro y c st' _ _ ⟨rfl,rfl⟩
     refine i9 (Y1 ?_)
     have hp1:¬ (Z1 (v7 κ arr4 #[(0,n,0)] 7 none)).size > 1:=by show ¬ (1:Nat) > 1;decide
     rw[if_neg hp1]
     exact m8 ⟨rfl,rfl⟩
    ·rintro c st' ⟨rfl,rfl⟩
     dsimp only
     refine i9 (K4 (i9 (K4 (m8 (.inr (.inr ⟨by lia,n,power' N (2*0+n) (2*0+n+n+(N - n)) N,arr4,?_,?_,hn1,by lia,k2.trans (cU.weak (k3.trans k4)),(s2.low k3 (i8 _)).low k4 (i8 _),s4⟩))))))
     ·first|rfl | (congr 1;lia)
     ·first|rfl | (congr 1;try simp;try lia)
   ·rw[if_neg hlt]
    have e3:n3=N - n:=by lia
    subst e3
    refine i9 (Y1 ?_)
    have hb:(Z1 (v7 κ arr3 #[(0,n,0)] 7 none)).back?=some (0,n,0):=rfl
    rw[hb]
    dsimp only
    refine i9 (W7 (J8 (I:=fun _ c st'=>c=(none,())/\st'=v7 κ arr3 #[(0,n,0)] 7 none) (Q:=fun c st'=>c=(none,())/\st'=v7 κ arr3 #[(0,n,0)] 7 none) ?_ (fun _ _ z=>z) ⟨rfl,rfl⟩) ?_)
    ·rintro y c st' _ _ ⟨rfl,rfl⟩
     refine i9 (Y1 ?_)
     have hp1:¬ (Z1 (v7 κ arr3 #[(0,n,0)] 7 none)).size > 1:=by show ¬ (1:Nat) > 1;decide
     rw[if_neg hp1]
     exact m8 ⟨rfl,rfl⟩
    ·rintro c st' ⟨rfl,rfl⟩
     dsimp only
     refine i9 (K4 (i9 (K4 (m8 (.inr (.inr ⟨by lia,n,power' N (2*0+n) (2*0+n+n+(N - n)) N,arr3,?_,?_,hn1,by lia,k2.trans (cU.weak k3),s2.low k3 (i8 _),s3⟩))))))
     ·first|rfl | (congr 1;lia)
     ·first|rfl | (congr 1;try simp;try lia)
  ·dsimp only
   rw[if_pos (i8 _)]
   exact m8 ⟨rfl,.inr ⟨n,pw,arr2,rfl,hn1,hn2,k2,s2,s3⟩⟩
 ·rintro c st' (⟨hx,rfl,rfl⟩|⟨hx1,n,arr2,rfl,rfl,hn1,hn2,k2,s2,hnx⟩|⟨hx2,n,pw,arr2,rfl,rfl,hn1,hn2,k2,s2,s3⟩)
  ·lia
  ·have e:n=N:=by lia
   subst e
   exact ⟨rfl,.inl ⟨arr2,rfl,k2,s2⟩⟩
  ·exact ⟨rfl,.inr ⟨n,pw,arr2,rfl,hn1,hn2,k2,s2,s3⟩⟩
 ·rintro ⟨c1,c2⟩ st' ⟨hc,hst⟩
  dsimp only at hc
  subst hc
  dsimp only
  refine i9 (W7 (J8 (I:=fun x c st'=>c=(none,())/\((∃arr2 mg,st'=v7 κ arr2 #[(0,N,(Z1 st').back?.elim 0 (·.2.2))] mg none/\arr2.toList.Perm arr.toList/\Up rk arr2.toList) ∨ (x=0/\∃n pw arr2,st'=v7 κ arr2 #[(0,n,pw),(n,N - n,0)] 7 none/\mr<=n/\n<N/\cU 0 arr arr2/\nq rk arr2 0 n/\nq rk arr2 n (N - n))))
   (Q:=fun c st'=>c=(none,())/\dY st'=none/\(dJ st').toList.Perm arr.toList/\Up rk (dJ st').toList) ?_ ?_ ?_) ?_)
  ·rintro x c st2 _ hx ⟨rfl,(⟨arr2,mg,e,hp,hu⟩|⟨rfl,n,pw,arr2,rfl,hn1,hn2,k2,s2,s3⟩)⟩
   ·generalize (Z1 st2).back?.elim 0 (·.2.2)=pw at e
    subst e
    refine i9 (Y1 ?_)
    rw[if_pos (by show (1:Nat)<=1;exact i8 1)]
    exact m8 ⟨rfl,rfl,hp,hu⟩
   ·have m2:∀x∈arr2.toList,M x:=fun x hx=>m x (k2.perm.mem_iff.mp hx)
    have z2:=k2.size
    refine i9 (Y1 ?_)
    rw[if_neg (by show ¬ (2:Nat)<=1;decide)]
    have u1:Up rk (arr2.toList.take n):=by have:=tD s2 (by lia);rw[R5] at this;exact this
    have u2:Up rk (arr2.toList.drop n):=by
     have:=tD s3 (by lia)
     rw[K1 (by rw[M0,G2];lia)] at this
     exact this
    refine i9 (yo hA m2 (by lia) (by lia) (by lia) u1 u2 fun arr' mg' hp hu=>?_)
    simp only[iG,P8,if_false]
    refine m8 ⟨rfl,.inl ⟨arr',mg',?_,hp.trans k2.perm,hu⟩⟩
    rw[show n+(N - n)=N by lia]
    rfl
  ·rintro c st2 ⟨rfl,(⟨arr2,mg,e,hp,hu⟩|⟨hx,_⟩)⟩
   ·generalize (Z1 st2).back?.elim 0 (·.2.2)=pw at e
    subst e
    exact ⟨rfl,rfl,hp,hu⟩
   ·lia
  ·refine ⟨rfl,?_⟩
   rcases hst with ⟨arr2,rfl,k2,s2⟩|⟨n,pw,arr2,rfl,r⟩
   ·refine .inl ⟨arr2,7,rfl,k2.perm,?_⟩
    have z2:=k2.size
    have:=tD s2 (by lia)
    rw[R5,K1 (by rw[G2];lia)] at this
    exact this
   ·exact .inr ⟨rfl,n,pw,arr2,rfl,r⟩
  ·rintro c st2 ⟨rfl,hf,hp,hu⟩
   exact m8 (h st2 hp hf hu)
end
end So
namespace So
open PySem PyProof.Rows PySem.Spec L2
section
variable {prog:j6}{w:r9}{A:A5}{E:b9->d7->Prop}{s:d7}{rk:n8->Int}{M:n8->Prop}{κ:cM}
theorem pj {arr:Array n8}{Q:Unit->K6->Prop} (hA:xk prog w A s rk M κ) (m:∀x∈arr.toList,M x) (h2:2<=arr.size) (h64:arr.size<64)
  (h:∀st',(dJ st').toList.Perm arr.toList->dY st'=none->Up rk (dJ st').toList->Q () st'):wpS (t8 prog w) A E s LP Q (v7 κ arr #[] 7 none):=by
 rw[sortRuns'_eq]
 refine i9 (Y1 ?_)
 dsimp only
 obtain ⟨N,eN⟩:∃N,N=arr.size:=⟨_,rfl⟩
 have hmr:Ls N N 0=N:=by
  obtain ⟨f,hf⟩:∃f,N=f+1:=⟨N - 1,by lia⟩
  have:Ls (f+1) N 0=N:=by rw[Ew,if_pos (by lia)];rfl
  rw[<- hf] at this
  exact this
 simp only[<- eN,hmr]
 refine i9 (W7 (J8
  (I:=fun x c st'=>(x=0/\c=(none,0)/\st'=v7 κ arr #[] 7 none) ∨ (1<=x/\∃arr2,c=(none,N)/\st'=v7 κ arr2 #[(0,N,0)] 7 none/\cU 0 arr arr2/\nq rk arr2 0 N))
  (Q:=fun c st'=>c.1=none/\∃arr2,st'=v7 κ arr2 #[(0,N,0)] 7 none/\cU 0 arr arr2/\nq rk arr2 0 N) ?_ ?_ (.inl ⟨rfl,rfl,rfl⟩)) ?_)
 ·rintro x c st' _ hx (⟨rfl,rfl,rfl⟩|⟨hx1,arr2,rfl,rfl,k2,s2⟩)
  ·dsimp only
   rw[if_neg (by lia)]
   simp only[oS,U7,Nat.min_self]
   refine i9 (jq hA m (by lia) (by lia) fun arr2 n hn1 hn2 k2 s2=>?_)
   have m2:∀x∈arr2.toList,M x:=fun x hx=>m x (k2.perm.mem_iff.mp hx)
   have z2:=k2.size
   dsimp only
   by_cases hlt:n<N
   ·rw[if_pos hlt]
    refine i9 (fM (P1 ⟨rfl,?_⟩))
    refine i9 (fR hA m2 hn1 (by lia) (by lia) s2 fun arr3 k3 s3=>?_)
    simp only[iG,P8,if_false]
    refine i9 (Y1 ?_)
    have hb:(Z1 (v7 κ arr3 #[] 7 none)).back?=none:=rfl
    rw[hb]
    dsimp only
    exact i9 (K4 (m8 (.inr ⟨by lia,arr3,rfl,rfl,k2.trans k3,s3⟩)))
   ·rw[if_neg hlt]
    have e:n=N:=by lia
    subst e
    refine i9 (Y1 ?_)
    have hb:(Z1 (v7 κ arr2 #[] 7 none)).back?=none:=rfl
    rw[hb]
    dsimp only
    exact i9 (K4 (m8 (.inr ⟨by lia,arr2,rfl,rfl,k2,s2⟩)))
  ·dsimp only
   rw[if_pos (i8 _)]
   exact m8 ⟨rfl,arr2,rfl,k2,s2⟩
 ·rintro c st' (⟨hx,rfl,rfl⟩|⟨hx1,arr2,rfl,rfl,k2,s2⟩)
  ·lia
  ·exact ⟨rfl,arr2,rfl,k2,s2⟩
 ·rintro ⟨c1,c2⟩ st' ⟨hc,arr2,rfl,k2,s2⟩
  dsimp only at hc
  subst hc
  dsimp only
  refine i9 (W7 (J8 (I:=fun _ c st'=>c=(none,())/\st'=v7 κ arr2 #[(0,N,0)] 7 none) (Q:=fun c st'=>c=(none,())/\st'=v7 κ arr2 #[(0,N,0)] 7 none) ?_ (fun _ _ z=>z) ⟨rfl,rfl⟩) ?_)
  ·rintro x c st' _ _ ⟨rfl,rfl⟩
   refine i9 (Y1 ?_)
   rw[if_pos (by show (1:Nat)<=1;exact i8 1)]
   exact m8 ⟨rfl,rfl⟩
  ·rintro c st' ⟨rfl,rfl⟩
   have z2:=k2.size
   refine m8 (h _ k2.perm rfl ?_)
   have:=tD s2 (by lia)
   rw[R5,K1 (by rw[G2];lia)] at this
   exact this
theorem tF {arr:Array n8}{Q:Unit->K6->Prop} (hA:xk prog w A s rk M κ) (m:∀x∈arr.toList,M x) (h2:2<=arr.size) (h128:arr.size<128)
  (h:∀st',(dJ st').toList.Perm arr.toList->dY st'=none->Up rk (dJ st').toList->Q () st'):wpS (t8 prog w) A E s LP Q (v7 κ arr #[] 7 none):=by
 by_cases h64:arr.size<64
 ·exact pj hA m h2 h64 h
 ·exact vp hA m (by lia) h128 h
theorem Aw {rv:b9->Int}{B:Addr}{vs:List b9}{c:Nat}{P:PySem.Fin->d7->Prop} (hB:s.heap.get? B=some (fX "list" vs.toArray c)) (h128:vs.length<128)
  (hk:2<=vs.length->∀h1,(∀b o,b≠B->s.heap.get? b=some o->h1.get? b=some o) ->
   m6 (t8 prog w) A (keyKind' vs.toArray) (fun κ s'=>s'={ s with heap:=h1 }/\xk prog w A { s with heap:=h1 } (fun x=>rv x.1) (fun x=>x.1∈vs) κ) (fun _ _=>False) { s with heap:=h1 })
  (hP:∀h' vs' c',vs'.Perm vs->vs'.Pairwise (fun x y=>rv x<=rv y)->(∀b o,b≠B->s.heap.get? b=some o->h'.get? b=some o)->h'.get? B=some (fX "list" (fB vs') c')->P (.done (.ret .none)) { s with heap:=h' }):m6 (t8 prog w) A (bD.«list.sort» ⟨[.ref B],[]⟩) P E s:=by
 obtain ⟨e1,hB1⟩:∃e1,(s.heap.update B (bt fun _=>(#[]:Array b9))).get? B=some (fX "list" #[] e1):=⟨_,get?_update_seq hB fun _=>#[]⟩
 have b1:=U4 s.heap B (bt fun _=>(#[]:Array b9))
 obtain ⟨h3,eh3⟩:∃h3,h3=((s.heap.update B (bt fun _=>(#[]:Array b9))).push (fX "tuple" vs.toArray 0)).push (fX "list" #[] 0):=⟨_,rfl⟩
 have hB3:h3.get? B=some (fX "list" #[] e1):=by rw[eh3];exact f9 _ (f9 _ hB1)
 have k3:∀b o,b≠B->s.heap.get? b=some o->h3.get? b=some o:=fun b o hb q=>by rw[eh3];exact f9 _ (f9 _ (b1.extBut b o hb q))
 rw[list_sort_plain]
 refine b8 (listItems_at hB rfl (b8 (listUpdate_at hB rfl ?_ (by rw[n9,aP];lia) (u9 _))))
 refine b8 (seqEpoch_at hB1 rfl (b8 (nU ?_ (by show vs.length<=_;rw[aP];lia))))
 refine b8 (wpAny_newList (P9 ?_) (u9 _))
 show m6 (t8 prog w) A _ P E { s with heap:=((s.heap.update B (bt fun _=>(#[]:Array b9))).push (fX "tuple" vs.toArray 0)).push (fX "list" #[] 0) }
 rw[<- eh3]
 dsimp only
 have fin:∀(st:K6) (out:List b9),(dJ st).map (·.2)=fB out->out.length=vs.length->dY st=none->out.Perm vs->out.Pairwise (fun x y=>rv x<=rv y) ->
   m6 (t8 prog w) A (do
    let sorted:=(dJ st).map (·.2)
    let touched:=(<- seqEpoch B) != e1
    Builtin.List.listUpdate (.ref B) fun _=>sorted
    if let some e:=dY st then rule "list.sort.comparison-raised";throw e
    if touched then rule "list.sort.modified";raiseError "ValueError" "list modified during sort"
    ret .none) P E { s with heap:=h3 }:=fun st out ho hl hf hp hu=>by
  rw[ho]
  have sz:(fB out).size<=i6:=by rw[n9,hl,aP];lia
  obtain ⟨c2,hc2⟩:∃c2,(h3.update B (bt fun _=>fB out)).get? B=some (fX "list" (fB out) c2):=⟨_,get?_update_seq hB3 fun _=>fB out⟩
  refine b8 (seqEpoch_at hB3 rfl (b8 (listUpdate_at hB3 rfl ?_ (u9 _) (n6 sz (cH _)))))
  rw[hf]
  simp only[bne_self_eq_false,P8,if_false]
  exact d9 (hP _ out c2 hp hu (fun b o hb q=>(U4 h3 B _).extBut b o hb (k3 b o hb q)) hc2)
 by_cases h2:2<=vs.length
 ·have hn2:¬ vs.toArray.size<2:=by rw[n9];lia
  rw[if_neg hn2,if_neg hn2]
  refine b8 (K5 (hk h2 h3 k3) (fun κ s0 hh=>?_) fun _ _ x=>x.elim)
  obtain ⟨rfl,ask⟩:=hh
  have ez:(vs.toArray.zip vs.toArray).toList=vs.map fun v=>(v,v):=by
   rw[Array.toList_zip]
   show vs.zip vs=_
   clear hk hP hB h128 h2 hn2 ask fin hB1 b1 eh3 hB3 k3
   induction vs with
   | nil=>rfl
   | cons v vs ih=>rw[fV,ih];rfl
  refine b8 (K5 (tF (rk:=fun x=>rv x.1) (M:=fun x=>x.1∈vs) (s:={ s with heap:=h3 }) (Q:=fun _ st'=>(dJ st').toList.Perm (vs.map fun v=>(v,v))/\dY st'=none/\Up (fun x=>rv x.1) (dJ st').toList) ask (fun x hx=>?_) ?_ ?_ (fun st' a1 a2 a3=>⟨by rw[ez] at a1;exact a1,a2,a3⟩)) ?_ fun _ _ e=>e)
  ·rw[ez] at hx
   obtain ⟨v,hv,rfl⟩:=List.mem_map.mp hx
   exact hv
  ·have:=congrArg Bv ez
   simp at this ⊢
   lia
  ·have:=congrArg Bv ez
   simp at this ⊢
   lia
  rintro ⟨⟨⟩,st'⟩ s' ⟨rfl,hp,hf,hu⟩
  dsimp only at hp hf hu ⊢
  have twin:∀x∈(dJ st').toList,x.1=x.2:=fun x hx=>by
   obtain ⟨v,_,rfl⟩:=List.mem_map.mp (hp.mem_iff.mp hx)
   rfl
  have hp2:((dJ st').toList.map (·.2)).Perm vs:=by
   have:=hp.map (·.2)
   rw[R4] at this
   have e:vs.map ((fun x:n8=>x.2) ∘ fun v=>(v,v))=vs:=by
    have:((fun x:n8=>x.2) ∘ fun v=>(v,v))=id:=rfl
    rw[this,Me]
   rw[e] at this
   exact this
  refine fin st' ((dJ st').toList.map (·.2)) ?_ hp2.length_eq hf hp2 ?_
  ·apply Array.toList_inj.mp
   simp
  ·rw[gR]
   refine eZ ?_ hu
   intro x y hx hy hxy
   rw[<- twin x hx,<- twin y hy]
   exact hxy
 ·have hn2:vs.toArray.size<2:=by rw[n9];lia
  rw[if_pos hn2,if_pos hn2]
  refine b8 (d9 (b8 ?_))
  rw[StateT.run_pure]
  refine d9 ?_
  refine fin _ vs (by
   show ((vs.toArray.zip vs.toArray).map (·.2))=vs.toArray
   apply Array.toList_inj.mp
   simp[List.map_snd_zip]) rfl rfl (bW _) ?_
  match vs,h2 with
  | [],_=>exact bH
  | [v],_=>exact xp _ _
  | a::b::l,h2=>exact absurd (by simp:2<=(a::b::l).length) h2
end
end So
namespace L2
open PySem PySem.Spec PyProof.Rows HT
theorem uk:∀a:List Int,P4 a a=false
 | []=>rfl
 | x::a=>by rw[bL,if_pos rfl];exact uk a
theorem uj:∀{a b:List Int},P4 a b=false->P4 b a=false->a=b
 | [],[],_,_=>rfl
 | [],_::_,h,_=>by rw[fm] at h;cases h
 | _::_,[],_,h=>by rw[fm] at h;cases h
 | x::a,y::b,h,k=>by
  rw[bL] at h k
  by_cases e:x=y
  ·rw[if_pos e] at h
   rw[if_pos e.symm] at k
   rw[e,uj h k]
  ·rw[if_neg e,decide_eq_false_iff_not] at h
   rw[if_neg fun z=>e z.symm,decide_eq_false_iff_not] at k
   lia
theorem mV:∀{a b c:List Int},P4 a b=true->P4 b c=true->P4 a c=true
 | [],[],[],h,_=>by cases h
 | [],_::_,[],_,k=>by rw[cq] at k;cases k
 | [],_,_::_,_,_=>rfl
 | x::a,[],_,h,_=>by rw[cq] at h;cases h
 | x::a,y::b,[],_,k=>by rw[cq] at k;cases k
 | x::a,y::b,z::c,h,k=>by
  rw[bL] at h k ⊢
  by_cases e1:x=y
  ·rw[if_pos e1] at h
   by_cases e2:y=z
   ·rw[if_pos e2] at k
    rw[if_pos (e1.trans e2)]
    exact mV h k
   ·rw[if_neg e2,decide_eq_true_iff] at k
    rw[if_neg (by lia),decide_eq_true_iff];lia
  ·rw[if_neg e1,decide_eq_true_iff] at h
   by_cases e2:y=z
   ·rw[if_neg (by lia),decide_eq_true_iff];lia
   ·rw[if_neg e2,decide_eq_true_iff] at k
    rw[if_neg (by lia),decide_eq_true_iff];lia
noncomputable def nK (ks:List (List Int)) (k:List Int):Nat:=ks.countP fun z=>P4 z k
theorem zl {ks:List (List Int)}{a b:List Int} (ha:a∈ks) (h:P4 a b=true):nK ks a<nK ks b:=by
 unfold nK
 have mono:∀l:List (List Int),l.countP (fun z=>P4 z a)<=l.countP (fun z=>P4 z b):=fun l=>List.countP_mono_left fun z _ hz=>mV hz h
 induction ks with
 | nil=>cases ha
 | cons z ks ih =>
  rw[FR,FR]
  rcases List.mem_cons.mp ha with e|e
  ·subst e
   rw[if_neg (by rw[uk];decide),if_pos h]
   have:=mono ks
   lia
  ·have:=ih e
   by_cases hz:P4 z a=true
   ·rw[if_pos hz,if_pos (mV hz h)];lia
   ·rw[if_neg hz]
    split <;> lia
theorem vK {ks:List (List Int)}{a b:List Int} (ha:a∈ks) (hb:b∈ks):decide ((nK ks a:Int)<(nK ks b:Int))=P4 a b:=by
 cases h:P4 a b with
 | true=>exact decide_eq_true (by have:=zl ha h;lia)
 | false =>
  refine decide_eq_false fun z=>?_
  cases h2:P4 b a with
  | true=>have:=zl hb h2;lia
  | false=>rw[uj h h2] at z;lia
section
variable {prog:j6}{w:r9}{A:A5}{E:b9->d7->Prop}{s:d7}
noncomputable def S9 (h:Heap) (v:b9) (ns:List Int):Prop:=∃(a:Addr) (us:List b9),v=.ref a/\Ao h a us.toArray/\aX us ns
theorem lL:∀{us:List b9}{ns:List Int}{j:Nat}{v:b9},aX us ns->us[j]?=some v->∃t,v=oO (ns.getD j 0) t
 | _,_,0,v,.cons _ _ _,e=>by cases e;exact ⟨_,rfl⟩
 | _,_,j+1,v,.cons _ _ t,e=>by
  obtain ⟨t',h⟩:=lL (j:=j) t (by simpa using e)
  exact ⟨t',by rw[h];rfl⟩
theorem lK:∀{us:List b9}{ns:List Int},aX us ns->us.length=ns.length
 | _,_,.nil=>rfl
 | _,_,.cons _ _ t=>by rw[A8,A8,lK t]
theorem zJ:∀{us:List b9}{ns ms:List Int},aX us ns->aX us ms->ns=ms
 | _,_,_,.nil,.nil=>rfl
 | _,_,_,.cons _ _ t,.cons _ _ u=>by rw[zJ t u]
theorem S9.eq {p q:b9}{ns ms:List Int} (h1:S9 s.heap p ns) (h2:S9 s.heap q ms) (hu:A.units<bj) (hne:ns≠ms):sP A s p q false:=by
 obtain ⟨a,us,rfl,⟨oa,ha,hca,na,hda⟩,i1⟩:=h1
 obtain ⟨b,vs,rfl,⟨ob,hb,hcb,nb,hdb⟩,i2⟩:=h2
 have l1:=lK i1
 have l2:=lK i2
 by_cases hab:a=b
 ·subst hab
  rw[ha] at hb
  cases hb
  rw[hda] at hdb
  injection hdb with e1 _
  have e2:us=vs:=by simpa using e1
  subst e2
  exact absurd (zJ i1 i2) hne
 ·have:=wW hab (xo (A:=A) (e:=fun j=>decide (ns.getD j 0=ms.getD j 0)) ⟨oa,ha,hca,na,hda⟩ ⟨ob,hb,hcb,nb,hdb⟩ hu fun j h1 h2=>by
   have h1':j<us.length:=by simpa using h1
   have h2':j<vs.length:=by simpa using h2
   obtain ⟨t,ex⟩:=lL i1 (f6 h1')
   obtain ⟨u,ey⟩:=lL i2 (f6 h2')
   have e1:us.toArray[j]=.int (ns.getD j 0) t:=by rw[eI];exact ex
   have e2:vs.toArray[j]=.int (ms.getD j 0) u:=by rw[eI];exact ey
   rw[e1,e2]
   have e3:decide (ns.getD j 0=ms.getD j 0)=(ns.getD j 0 == ms.getD j 0):=by rw[aI];simp
   rw[e3]
   exact jN _ t _ u)
  have e:((R0 (min us.toArray.size vs.toArray.size)).all (fun j=>decide (ns.getD j 0=ms.getD j 0))&&us.toArray.size == vs.toArray.size)=false:=by
   rw[Bool.eq_false_iff]
   intro z
   rw[A6,iT,beq_iff_eq,n9,n9] at z
   refine hne (List.ext_getElem (by lia) fun i h1 h2=>?_)
   have:=of_decide_eq_true (z.1 i (List.mem_range.mpr (by lia)))
   rw[E2,E2,f6 h1,f6 h2] at this
   exact this
  rw[e] at this
  exact this
theorem S9.lt {p q:b9}{ns ms:List Int} (h1:S9 s.heap p ns) (h2:S9 s.heap q ms) (hu:A.units<bj) {Q:b9->d7->Prop} (hq:Q (.bool (P4 ns ms)) s):m6 (t8 prog w) A (T8 .Lt p q) Q E s:=by
 obtain ⟨a,us,rfl,ta,i1⟩:=h1
 obtain ⟨b,vs,rfl,tb,i2⟩:=h2
 exact HT.yr ta tb i1 i2 hu hq
end
end L2
namespace Mq
open PySem PySem.Spec L2 Mt Md
noncomputable def qu (T:F7):Prop:=(T.map (·.1)).Pairwise (fun a b=>HT.P4 b a=false)
theorem pR:∀{T U:F7},qu T->qu U->fq T->T.Perm U->T=U
 | [],U,_,_,_,h=>by rw[h.nil_eq]
 | p::T,[],_,_,_,h=>by have:=h.length_eq;simp at this
 | p::T,q::U,hT,hU,hn,h=>by
  have hT':=List.pairwise_cons.mp (show (p.1::T.map (·.1)).Pairwise _ from hT)
  have hU':=List.pairwise_cons.mp (show (q.1::U.map (·.1)).Pairwise _ from hU)
  have hn':p.1 ∉ T.map (·.1)/\fq T:=by unfold fq at hn ⊢;rw[B7,S4] at hn;exact hn
  have e:p=q:=by
   have hp:p∈q::U:=h.mem_iff.mp j8
   have hq:q∈p::T:=h.mem_iff.mpr j8
   rcases List.mem_cons.mp hp with z|z
   ·exact z
   ·rcases List.mem_cons.mp hq with y|y
    ·exact y.symm
    ·have a1:=hU'.1 p.1 (List.mem_map.mpr ⟨p,z,rfl⟩)
     have a2:=hT'.1 q.1 (List.mem_map.mpr ⟨q,y,rfl⟩)
     have:=uj a1 a2
     exact absurd (List.mem_map.mpr ⟨q,y,this.symm⟩) hn'.1
  subst e
  rw[pR hT'.2 hU'.2 hn'.2 h.cons_inv]
theorem oz:∀{T:F7}{p:List Int × Rat},fq T->(p∈T ↔ p.1∈T.map (·.1)/\iM T p.1=p.2)
 | [],p,_=>by simp
 | q::T,p,h=>by
  have h1:q.1 ∉ T.map (·.1)/\fq T:=by unfold fq at h ⊢;rw[B7,S4] at h;exact h
  rw[B6,B7,B6]
  show _ ↔ _/\(if q.1=p.1 then q.2 else iM T p.1)=p.2
  by_cases e:q.1=p.1
  ·rw[if_pos e]
   constructor
   ·rintro (z|z)
    ·subst z;exact ⟨.inl rfl,rfl⟩
    ·exact absurd (List.mem_map.mpr ⟨p,z,e.symm⟩) h1.1
   ·rintro ⟨_,z⟩
    exact .inl (Bq e.symm z.symm)
  ·rw[if_neg e]
   constructor
   ·rintro (z|z)
    ·exact absurd (by rw[z]) e
    ·have:=(oz h1.2).mp z
     exact ⟨.inr this.1,this.2⟩
   ·rintro ⟨z|z,y⟩
    ·exact absurd z.symm e
    ·exact .inr ((oz h1.2).mpr ⟨z,y⟩)
theorem yg:∀{T:F7},fq T->T.Nodup
 | [],_=>List.nodup_nil
 | q::T,h=>by
  have h1:q.1 ∉ T.map (·.1)/\fq T:=by unfold fq at h ⊢;rw[B7,S4] at h;exact h
  exact List.nodup_cons.mpr ⟨fun z=>h1.1 (List.mem_map.mpr ⟨q,z,rfl⟩),yg h1.2⟩
theorem pU {α:Type} [DecidableEq α]:∀{l m:List α},l.Nodup->m.Nodup->(∀x,x∈l ↔ x∈m)->l.Perm m
 | [],m,_,_,h=>by
  cases m with
  | nil=>exact bW _
  | cons a m=>exact absurd ((h a).mpr j8) (by simp)
 | a::l,m,hl,hm,h=>by
  have ha:a∈m:=(h a).mp j8
  have hl':=List.nodup_cons.mp hl
  have ih:=pU (l:=l) (m:=m.erase a) hl'.2 (hm.erase a) fun x=>by
   rw[List.Nodup.mem_erase_iff hm]
   constructor
   ·intro hx
    exact ⟨fun z=>hl'.1 (by rw[<- z];exact hx),(h x).mp (j9 _ hx)⟩
   ·rintro ⟨h1,h2⟩
    rcases List.mem_cons.mp ((h x).mpr h2) with z|z
    ·exact absurd z h1
    ·exact z
  exact (ih.cons a).trans (List.perm_cons_erase ha).symm
theorem vP {T U:F7} (hT:fq T) (hU:fq U) (hk:∀k,k∈T.map (·.1) ↔ k∈U.map (·.1)) (hv:∀k,iM T k=iM U k):T.Perm U :=
 pU (yg hT) (yg hU) fun p=>by rw[oz hT,oz hU,hk,hv]
set_option maxHeartbeats 1000000
structure Cn (u:List Int) (rs:List (List Int)) (n k:Nat) (c:List Int):Prop where
 len:c.length=n
 nn:∀x∈c,0<=x/\x<=(k:Int)
 urn:aq n (20+5*k) (uU u rs c)
noncomputable def cntD (n:Nat) (ds:List Nat):List Int:=(R0 n).map fun j=>((ds.count j:Nat):Int)
structure DrOk (u:List Int) (rs:List (List Int)) (n k:Nat) (e:List Nat × List Int × Rat):Prop where
 len:e.1.length=k
 lt:∀j∈e.1,j<n
 urn:e.2.1=uU u rs (cntD n e.1)
 ok:aq n (20+5*k) e.2.1
 vq:Vq (LL ^ k) 1 e.2.2
end Mq
namespace Mt
noncomputable def rp (s g:Int):Nat->Int
 | 0=>1
 | n+1=>rp s g n*(s+(n:Int)*g)
noncomputable abbrev fct (n:Nat):Int:=rp 1 1 n
noncomputable def tot:List Nat->Nat
 | []=>0
 | c::cs=>c+tot cs
noncomputable def Kr (a:Int):List Nat->Int
 | []=>a
 | c::cs=>Kr (a / fct c) cs
noncomputable def ordN (cs:List Nat):Int:=Kr (fct (tot cs)) cs
noncomputable def rps (g:Int):List Int->List Nat->Int
 | b::bs,c::cs=>rp b g c*rps g bs cs
 | _,_=>1
noncomputable def cch (ns:List Int) (g:Int) (cs:List Nat):Rat:=cut (ordN cs*rps g ns cs) (rp ns.sum g (tot cs))
noncomputable def bnow (g:Int) (ns:List Int) (cs:List Nat):List Int:=Ly (fun b (c:Nat)=>b+g*(c:Int)) ns cs
end Mt
namespace Mq
open PySem PySem.Spec L2 Mt Md
noncomputable def KZ (c:List Nat) (j:Nat):List Nat:=c.set j (c.getD j 0 - 1)
noncomputable def parts (ns:List Int) (g:Int) (c:List Nat) (j:Nat):Rat:=if 0<c.getD j 0 then cch ns g (KZ c j)*cj (bnow g ns (KZ c j)) j else 0
noncomputable def cntN (n:Nat) (ds:List Nat):List Nat:=(R0 n).map fun j=>ds.count j
noncomputable def iC (n:Nat) (c:List Nat) (ds:List Nat):Rat:=if cntN n ds=c then 1 else 0
end Mq
set_option maxHeartbeats 4000000
namespace Mq
open PySem PySem.Spec PyProof.Rows L2 Mt Md
structure Mor (n m N B L:Nat) (D:F7) (S:(List Int->Rat)->Rat) (ks:List Int->Prop):Prop where
 keys:Li n m D
 nd:fq D
 all:bU N B D
 len:D.length<=L
 lin:∀φ,lH D φ=S φ
 mem:∀k,k∈D.map (·.1) ↔ ks k
noncomputable def ind (x:List Int):List Int->Rat:=fun k=>if k=x then 1 else 0
end Mq
namespace HP
open PySem L2
section
variable {P:j6}{w:r9}
noncomputable abbrev tK (P:j6) (w:r9):HeapKind P w (List jt):=LO (el P w)
noncomputable abbrev KP:=List jt × List jt
noncomputable def kL (P:j6) (w:r9) (h:Heap) (k:KP) (a:Addr):Prop :=
 ∃o b c n,h.get? a=some o/\o.cls=.type "tuple"/\o.data=.seq #[.ref b,.ref c] n/\(tK P w).is h k.1 b/\(tK P w).is h k.2 c
variable {k:KP}{a:Addr}
theorem kL.ty {s:d7}(x:kL P w s.heap k a):s.TypeIs (.ref a) "tuple":=let ⟨o,_,_,_,ho,hc,_⟩:=x;⟨o,ho,hc⟩
variable {x y:KP}
theorem kL.one {h:Heap}(hx:kL P w h x a) (hy:kL P w h y a):x=y:=by
 obtain ⟨o,b,c,n,ho,_,hd,i1,i2⟩:=hx
 obtain ⟨o',b',c',n',ho',_,hd',j1,j2⟩:=hy
 rw[ho] at ho';cases ho'
 rw[hd] at hd'
 injection hd' with e _
 injection e with e
 injection e with e1 e
 injection e with e2 _
 injection e1 with e1
 injection e2 with e2
 subst e1 e2
 exact Bq ((tK P w).inj i1 j1) ((tK P w).inj i2 j2)
theorem kL.stay {h h':Heap}{d:Addr}{o:Obj}{es ep} (x:kL P w h k a) (ho:h.get? d=some o) (hd:o.data=.dict es ep) (hs:K3 d h h'):kL P w h' k a:=by
 obtain ⟨q,b,c,n,hq,hc,hqd,i1,i2⟩:=x
 refine ⟨q,b,c,n,(hs.2 a ?_).trans hq,hc,hqd,(tK P w).keeps i1 ho hd hs,(tK P w).keeps i2 ho hd hs⟩
 rintro rfl
 rw[ho] at hq;cases hq
 rw[hd] at hqd;cases hqd
noncomputable def xV (P:j6) (w:r9) (k:KP):Int:=reduceHash (ef [(tK P w).hash k.1,(tK P w).hash k.2])
variable {A:A5}{E:b9->d7->Prop}{s:d7}
theorem EV {Q:Int->d7->Prop} (hu:A.units+1<bj) (hk:kL P w s.heap k a) (h:Q (xV P w k) { s with toks:=s.toks+(k.1.length+1+(k.2.length+1)+1) }):
  m6 (t8 P w) A (pyHash (.ref a)) Q E s:=by
 have hT:=hk.ty
 obtain ⟨o,b,c,n,ho,_,hd,i1,i2⟩:=hk
 unfold pyHash
 first|unfold pyHashByItsType|skip
 first|refine b8 (wpAny_cRoomFor_or (.inr (by lia)) ?_)|skip
 refine b8 (fW hT F.slot_tuple_hash.lookup ?_)
 dsimp only
 rw[if_neg (by rw[beq_builtin_none];exact A0)]
 refine b8 (fW hT F.slot_tuple_hash.lookup ?_)
 refine b8 (wpAny_callSpecialIfBoundUnlessNone?_slot hT Ja (E8 Ja hT F.entry_tuple_hash ?_ (F.args_tuple_hash_1 _)))
 change m6 _ A.in1 (xu (dP _) _) _ E s
 refine b8 (qJ ho hd ?_)
 refine b8 ?_
 rw[<- mw]
 simp only[Y0,Z9]
 have hu1:A.in1.units<bj:=hu
 refine b8 (b8 ((tK P w).pyHash hu1 i1 (d9 ?_)))
 refine b8 (b8 ((tK P w).pyHash (s:={ s with toks:=s.toks+(k.1.length+1) }) hu1 i2 (d9 ?_)))
 refine d9 ?_
 dsimp only
 refine wpAny_ret_mkInt ?_
 have eq:({ s with toks:=s.toks+(k.1.length+1+(k.2.length+1)+1) }:d7)={ s with toks:=s.toks+(k.1.length+1)+(k.2.length+1)+1 }:=by
  congr 1;lia
 rw[eq] at h
 change m6 _ A (nv (ef [(tK P w).hash k.1,(tK P w).hash k.2])) Q E { s with toks:=s.toks+(k.1.length+1)+(k.2.length+1)+1 }
 unfold xV at h
 generalize ef [(tK P w).hash k.1,(tK P w).hash k.2]=z at h ⊢
 unfold reduceHash at h
 unfold nv
 split
 ·rename_i hz
  rw[if_pos hz] at h
  exact d9 h
 ·rename_i hz
  rw[if_neg hz] at h
  exact b8 (P1 (d9 h))
theorem xU {b:Addr}{R:Fin->d7->Prop} (hu:A.units<bj) (hx:kL P w s.heap x a) (hy:kL P w s.heap y b) (h:R (.done (.ret (.bool (decide (x=y))))) s):
  m6 (t8 P w) A (bD.«tuple.__eq__» ⟨[.ref a,.ref b],[]⟩) R E s:=by
 have hTb:=hy.ty
 obtain ⟨oa,p1,p2,na,hoa,_,hda,i1,i2⟩:=hx
 obtain ⟨ob,q1,q2,nb,hob,_,hdb,j1,j2⟩:=hy
 change m6 _ A (xu (qM (.ref b) (.type "tuple")) _) _ E s
 refine b8 (aA hTb mi ?_)
 rw[if_neg (by decide)]
 refine b8 (qJ hoa hda (b8 (qJ hob hdb (b8 ?_))))
 simp only[fV,ED,Y0,Z9]
 refine b8 (b8 ((tK P w).eqBool hu i1 j1 ?_))
 by_cases e1:x.1=y.1
 ·rw[decide_eq_true e1]
  rw[if_neg (by decide)]
  refine d9 (b8 (b8 ((tK P w).eqBool hu i2 j2 ?_)))
  by_cases e2:x.2=y.2
  ·rw[decide_eq_true e2,if_neg (by decide)]
   rw[decide_eq_true (Bq e1 e2)] at h
   exact d9 (d9 (d9 h))
  ·rw[decide_eq_false e2,if_pos (by decide)]
   rw[decide_eq_false (fun e=>e2 (by rw[e]))] at h
   exact b8 (d9 (d9 (d9 (d9 h))))
 ·rw[decide_eq_false e1,if_pos (by decide)]
  rw[decide_eq_false (fun e=>e1 (by rw[e]))] at h
  exact b8 (d9 (d9 (d9 (d9 h))))
variable {Q:Bool->d7->Prop}
theorem Kk {b:Addr}(hu:A.units+1<bj) (hx:kL P w s.heap x a) (hy:kL P w s.heap y b) (h:Q (decide (x=y)) s):
  m6 (t8 P w) A (eqBool (.ref a) (.ref b)) Q E s:=by
 unfold eqBool
 try with_reducible refine P9 ?_
 change m6 _ _ (if (y6 a == y6 b)=true then _ else _) Q E s
 by_cases hab:(y6 a == y6 b)=true
 ·rw[if_pos hab]
  have e:=eq_of_beq hab
  injection e with e
  subst e
  cases hx.one hy
  rw[decide_eq_true rfl] at h
  exact b8 (P1 (d9 h))
 ·rw[if_neg hab]
  exact b8 (wpAny_richCompare_same_room (op:=.Eq) hx.ty hy.ty LB
   (E8 LB hx.ty F.entry_tuple_eq (xU (show A.in1.units<bj from hu) hx hy ⟨_,rfl,(fun e=>nomatch e),N7 h⟩) (F.args_tuple_eq_2 _ _)) (by lia))
theorem vm {n:Nat}{k:List jt}(hk:(tK P w).is s.heap k a) (h:Q true s):m6 (t8 P w) A (Ec (n+1) (.ref a)) Q E s:=by
 have hT:s.TypeIs (.ref a) "tuple":=IsTupleKey.typeIs hk
 obtain ⟨o,its,m,ho,_,hd,hi⟩:=hk
 unfold Ec
 refine b8 (fW hT F.slot_tuple_eq.lookup ?_)
 change m6 _ A (xu (qM (.ref a) (.type "tuple")) _) _ E s
 refine b8 (aA hT mi ?_)
 rw[if_neg (by decide)]
 refine b8 (X9 ho hd (b8 ?_))
 change m6 _ A (forIn its _ _) _ E s
 rw[<- mw]
 refine LN _ (fun l r s1=>s1=s/\r.1=none/\∀v∈l,carriedByValue v=true) _ ?_ ?_ _ _ ⟨rfl,rfl,hi.byValue⟩
 ·rintro v l r s1 ⟨rfl,hr,al⟩
  rw[eqIsQuiet_byValue _ (al v (.head _))]
  refine b8 (d9 ?_)
  rw[if_neg (by decide)]
  exact d9 ⟨rfl,rfl,fun v hv=>al v (.tail _ hv)⟩
 ·rintro ⟨r,_⟩ s1 ⟨rfl,hr,_⟩
  cases hr
  exact d9 h
theorem CO (hk:kL P w s.heap k a) (h:Q true s):m6 (t8 P w) A (Ec 8 (.ref a)) Q E s:=by
 have hT:=hk.ty
 obtain ⟨o,b,c,n,ho,_,hd,i1,i2⟩:=hk
 unfold Ec
 refine b8 (fW hT F.slot_tuple_eq.lookup ?_)
 change m6 _ A (xu (qM (.ref a) (.type "tuple")) _) _ E s
 refine b8 (aA hT mi ?_)
 rw[if_neg (by decide)]
 refine b8 (X9 ho hd (b8 ?_))
 change m6 _ A (forIn #[y6 b,y6 c] _ _) _ E s
 rw[<- mw]
 simp only[Y0,Z9]
 refine b8 (b8 (vm i1 ?_))
 rw[if_neg (by decide)]
 refine d9 (b8 (b8 (vm i2 ?_)))
 rw[if_neg (by decide)]
 exact d9 (d9 (d9 h))
noncomputable def pK (P:j6) (w:r9):HeapKind P w KP where
 is:=kL P w
 hash:=xV P w
 draws:=fun k=>k.1.length+1+(k.2.length+1)+1
 room:=fun A=>A.units+1<bj
 inj:=fun hx hy=>hx.one hy
 keeps:=fun x ho hd hs=>x.stay ho hd hs
 pyHash:=fun hu hk h=>EV hu hk h
 eqBool:=fun hu hx hy h=>Kk hu hx hy h
 quiet:=fun hk h=>CO hk h
end
end HP
namespace L2
open PySem PySem.Spec PyProof.Rows HP
noncomputable abbrev PX:=List (KP × Addr × Addr)
noncomputable def jJ (xs:PX):List (KP × Addr × b9):=xs.map fun x=>(x.1,x.2.1,.ref x.2.2)
noncomputable def N6 (P:j6) (w:r9) (a:Addr) (xs:PX):HO:=.ext fun h =>
 xs.length<=i6/\(a == aa)=false/\∃o es ep,h.get? a=some o/\o.ExactDict/\o.data=.dict es ep/\es.toList=(jJ xs).map (Js (pK P w))/\(xs.map (·.1)).Nodup
noncomputable def xg (H:Hp) (k:KP) (b:Addr):Prop:=∃c d,H b=some (.tup [.ref c,.ref d])/\H c=some (.tup (k.1.map kV))/\H d=some (.tup (k.2.map kV))
noncomputable abbrev Jl (H:Hp) (xs:PX):Prop:=∀x∈xs,xg H x.1 x.2.1
theorem xg.keep {H H':Hp}{k:KP}{b:Addr} (h:xg H k b) (t:∀c ys,H c=some (.tup ys)->H' c=some (.tup ys)):xg H' k b:=let ⟨c,d,h1,h2,h3⟩:=h;⟨c,d,t _ _ h1,t _ _ h2,t _ _ h3⟩
noncomputable def zY (xs:PX) (k:KP):Option Addr:=(xs.find? fun x=>decide (x.1=k)).map (·.2.2)
noncomputable def tH (k:KP) (v:Addr) (x:KP × Addr × Addr):KP × Addr × Addr:=if x.1=k then (x.1,x.2.1,v) else x
noncomputable def xR (xs:PX) (k:KP) (b v:Addr):PX:=if (zY xs k).isSome then xs.map (tH k v) else xs++[(k,b,v)]
theorem pJ (xs:PX):(jJ xs).length=xs.length:=d6 ..
theorem rM (xs:PX):(jJ xs).map (·.1)=xs.map (·.1):=by unfold jJ;rw[R4];rfl
theorem tV (xs:PX) (k:KP):(atKey (jJ xs) k).map (·.2)=(zY xs k).map y6:=by
 unfold atKey zY jJ
 rw[List.find?_map]
 have e:((fun x:KP × Addr × b9=>decide (x.1=k)) ∘ fun x:KP × Addr × Addr=>(x.1,x.2.1,y6 x.2.2))=fun x:KP × Addr × Addr=>decide (x.1=k):=rfl
 rw[e]
 cases xs.find? fun x:KP × Addr × Addr=>decide (x.1=k) <;> rfl
theorem vJ (xs:PX) (k:KP) (b v:Addr):storedH (jJ xs) k b (.ref v)=jJ (xR xs k b v):=by
 have e:(atKey (jJ xs) k).isSome=(zY xs k).isSome:=by
  have:=tV xs k
  have h:=congrArg Option.isSome this
  rw[BI,BI] at h
  exact h
 unfold storedH xR
 rw[e]
 split
 ·unfold jJ
  rw[R4,R4]
  refine List.map_congr_left fun x _=>?_
  show putAt k (.ref v) (x.1,x.2.1,.ref x.2.2)=((tH k v x).1,(tH k v x).2.1,.ref (tH k v x).2.2)
  unfold putAt tH
  dsimp only
  split <;> rfl
 ·unfold jJ
  rw[A3];rfl
theorem CL (xs:PX) (k:KP) (b v:Addr):(xR xs k b v).length<=xs.length+1:=by
 unfold xR
 split
 ·rw[d6];exact cH _
 ·rw[v9];exact i8 _
section
variable {P:j6}{w:r9}{H:Hp}{h:Heap}{a:Addr}{xs:PX}
theorem lA {k:KP}{b:Addr} (ok:cV P w H h) (e:xg H k b):(pK P w).is h k b:=by
 obtain ⟨c,d,h1,h2,h3⟩:=e
 obtain ⟨_,its,r,o,g1,g2,n,g3⟩:=(show P5 P w H h b (.tup [.ref c,.ref d]) from ok b _ h1)
 cases r with
 | cons r1 rr =>
  cases rr with
  | cons r2 rr =>
   cases rr
   cases r1
   cases r2
   exact ⟨o,c,d,n,g1,g2,g3,DD ok h2,DD ok h3⟩
theorem uz (z:xs.length<=i6) (hs:(a == aa)=false) (hd:h.DictOfH (pK P w) a (jJ xs)):P5 P w H h a (N6 P w a xs):=by
 obtain ⟨o,es,ep,h1,h2,h3,h4,_,h5⟩:=hd
 rw[rM] at h5
 refine ⟨⟨z,hs,o,es,ep,h1,h2,h3,h4,h5⟩,⟨o,h1⟩,fun g1 g2 p k=>?_⟩
 obtain ⟨z,hs,o,es,ep,h1,h2,h3,h4,h5⟩:=p
 exact ⟨z,hs,o,es,ep,k _ h1,h2,h3,h4,h5⟩
theorem oI (ok:cV P w H h) (e:Rd H a (N6 P w a xs)) (hk:Jl H xs):xs.length<=i6/\(a == aa)=false/\h.DictOfH (pK P w) a (jJ xs):=by
 obtain ⟨⟨z,hs,o,es,ep,h1,h2,h3,h4,h5⟩,_,_⟩:=(show P5 P w H h a (N6 P w a xs) from Gd ok e)
 refine ⟨z,hs,o,es,ep,h1,h2,h3,h4,fun x hx=>?_,by rw[rM];exact h5⟩
 obtain ⟨y,hy,rfl⟩:=List.mem_map.mp hx
 exact lA ok (hk y hy)
end
section
variable {X:Cx}{o e f:Expr}{apos cpos pos:Pos}{td ty tx tv:TE}
noncomputable def GK (P:j6) (w:r9) (td ty tx:TE):TE:=fun σ H Q=>td σ H fun x H1=>∃a ys,x=.ref a/\Rd H1 a (N6 P w a ys)/\ty σ H1 fun y H2=>tx σ H2 fun z H3=>∃xs k b,Rd H3 a (N6 P w a xs)/\Jl H3 xs/\y=.ref b/\xg H3 k b/\Q ((zY xs k).elim z V.ref) H3
theorem vQ (hu:X.A.units+2<bj) (ho:PE X o td) (he:PE X e ty) (hf:PE X f tx) (m:M2 X o "get" apos e f cpos):PE X (.Call (.Attribute o "get" apos) [e,f] [] cpos) (GK X.prog X.w td ty tx):=by
 intro pins s σ H Q I h
 refine wpAny_Call_method m.base m.few m.line uM wX PySem.F.type_dict_get (X0 (ho pins s σ H _ I h) fun u s1 ⟨x,H1,I1,rx,a,ys,ex,d,q1⟩=>?_)
 subst ex
 obtain rfl:u=y6 a:=rx
 obtain ⟨⟨_,_,ob,_,_,g1,g2,_⟩,_,_⟩:=(show P5 X.prog X.w H1 s1.heap a (N6 X.prog X.w a ys) from Gd I1.hok d)
 refine ⟨⟨ob,g1,g2.1⟩,fun b q=>by cases q;exact ⟨ob,g1,g2.2.1⟩,?_⟩
 rw[m.trees]
 refine iW rfl (jZ (mn (X0 (he pins s1 σ H1 _ I1 q1) fun iv s2 ⟨y,H2,I2,ry,q2⟩ =>
  mn (X0 (hf pins s2 σ H2 _ I2 q2) fun fv s3 ⟨z,H3,I3,rz,xs,k,b,e3,hk,ey,kb,q3⟩=>Em ?_))))
 subst ey
 obtain rfl:iv=y6 b:=ry
 obtain ⟨_,hd,dd⟩:=oI I3.hok e3 hk
 refine call_meetsIn wX dd.typeIs PySem.F.entry_dict_get (PySem.F.args_dict_get_3 _ _ _) (meetsH_dict_get_default (pK X.prog X.w) a b hd fv) ⟨hu,k,jJ xs,lA I3.hok kb,dd,_,H3,I3.tok _,?_,q3⟩
 rw[tV]
 cases zY xs k with
 | none=>exact rz
 | some v=>rfl
noncomputable def FZ (P:j6) (w:r9) (td ty:TE):TE:=fun σ H Q=>td σ H fun x H1=>ty σ H1 fun y H2=>∃a xs k b v,x=.ref a/\Rd H2 a (N6 P w a xs)/\Jl H2 xs/\y=.ref b/\xg H2 k b/\zY xs k=some v/\Q (.ref v) H2
theorem EY (hu:X.A.units+2<bj) (ho:PE X o td) (hi:PE X e ty) (hs:IH e):PE X (.Subscript o e pos) (FZ X.prog X.w td ty):=by
 intro pins s σ H Q I h
 refine EN PySem.F.slot_dict_getitem.lookup hs (X0 (ho pins s σ H _ I h) fun u s1 ⟨x,H1,I1,rx,q1⟩=>X0 (hi pins s1 σ H1 _ I1 q1) fun iv s2 ⟨y,H2,I2,ry,a,xs,k,b,v,ex,e,hk,ey,kb,hv,q2⟩=>?_)
 subst ex ey
 obtain rfl:u=y6 a:=rx
 obtain rfl:iv=y6 b:=ry
 obtain ⟨_,hd,dd⟩:=oI I2.hok e hk
 have ha:=tV xs k
 rw[hv] at ha
 obtain ⟨p,hp,hp2⟩:=Option.map_eq_some_iff.mp ha
 exact ⟨dd.typeIs,wpAny_getItem_heap (knd:=pK X.prog X.w) hu (lA I2.hok kb) dd hp ⟨.ref v,H2,I2.tok _,hp2,q2⟩⟩
noncomputable def JZ (P:j6) (w:r9) (td ty tv:TE):TS:=fun D σ H=>tv σ H fun v H1=>td σ H1 fun x H2=>ty σ H2 fun y H3=>∃a xs k b q,x=.ref a/\v=.ref q/\y=.ref b/\H3 a=some (N6 P w a xs)/\Jl H3 xs/\xg H3 k b/\xs.length<i6/\D.nx σ (n5 H3 a (N6 P w a (xR xs k b q)))
theorem zq {pos':Pos}{value:Expr} (hu:X.A.units+2<bj) (ho:PE X o td) (hi:PE X e ty) (hv:PE X value tv) (hs:om value (some (.Subscript o e pos')) pos.line X.env=pure false):
  PS X (.Assign [.Subscript o e pos'] value pos) (JZ X.prog X.w td ty tv):=by
 intro pins s σ H D I h
 refine wpAny_Assign_Subscript (X0 (hv pins s σ H _ I h) fun r s1 ⟨v,H1,I1,rv,q1⟩=>X0 (ho pins s1 σ H1 _ I1 q1) fun u s2 ⟨x,H2,I2,rx,q2⟩=>X0 (hi pins s2 σ H2 _ I2 q2) fun iv s3 ⟨y,H3,I3,ry,a,xs,k,b,q,ex,ev,ey,e,hk,kb,hl,q3⟩=>?_) hs
 subst ex ey ev
 obtain rfl:u=y6 a:=rx
 obtain rfl:iv=y6 b:=ry
 obtain rfl:r=y6 q:=rv
 obtain ⟨hz,hd,dd⟩:=oI I3.hok (.inl e) hk
 refine wpAny_setItem_heap (knd:=pK X.prog X.w) (hsz:=by rw[pJ];exact hz) hu (lA I3.hok kb) dd fun h' dd' hs=>⟨σ,_,?_,q3⟩
 rw[vJ] at dd'
 have he:∃q,h'.get? a=some q:=let ⟨q,_,_,hq,_⟩:=dd';⟨q,hq⟩
 exact zP I3 (by rw[e];exact au) hs he (uz (by have:=CL xs k b q;lia) hd dd')
theorem qj {P:j6}{w:r9}{H:Hp} (h:Heap) (hb:aa<h.objs.size):P5 P w H (h.push { cls:=.type "dict",data:=.dict #[] }) h.objs.size (N6 P w h.objs.size []):=
 uz (u9 _) (beq_eq_false_iff_ne.mpr (J9 (v8 hb))) (Heap.DictOfH.new h)
noncomputable def JJ (P:j6) (w:r9):TE:=fun _ H Q=>∀p,H p=none->Q (.ref p) (n5 H p (N6 P w p []))
theorem zt:PE X (.Dict [] [] pos) (JJ X.prog X.w):=fun pins s σ H Q I h =>
 wpAny_Dict_empty ⟨.ref s.heap.objs.size,_,I.laid (a:=s.heap.objs.size) (o:=N6 X.prog X.w s.heap.objs.size []) (t':=s.toks) (fun _ _ q=>f9 _ q) (i8 _) (qj s.heap I.big),rfl,h _ (I.hok.fresh (i8 _))⟩
noncomputable def JI (P:j6) (w:r9) (tk tv:TE):TE:=fun σ H Q=>∀p,H p=none->tk σ (n5 H p (N6 P w p [])) fun y H1=>tv σ H1 fun x H2=>H2 p=some (N6 P w p [])/\∃b k q,y=.ref b/\x=.ref q/\xg H2 k b/\Q (.ref p) (n5 H2 p (N6 P w p [(k,b,q)]))
theorem EX {k v:Expr}{tk tv:TE} (hu:X.A.units+2<bj) (hk:PE X k tk) (hv:PE X v tv):PE X (.Dict [some k] [v] pos) (JI X.prog X.w tk tv):=by
 intro pins s σ H Q I q
 have I1:=I.laid (a:=s.heap.objs.size) (o:=N6 X.prog X.w s.heap.objs.size []) (h':=s.heap.push { cls:=.type "dict",data:=.dict #[] }) (t':=s.toks) (fun _ _ q=>f9 _ q) (i8 _) (qj s.heap I.big)
 refine wpAny_Dict_any rfl rfl (by simp) (by simp) (pairTrees_cons_walk (X0 (hk pins _ σ _ _ I1 (q _ (I.hok.fresh (i8 _)))) fun u s1 ⟨y,H1,I2,ry,q1⟩=>X0 (hv pins s1 σ H1 _ I2 q1) fun r s2 ⟨x,H2,I3,rx,e,b,k,z,ey,ex,kb,q2⟩=>pairTrees_nil_walk ?_))
 subst ey ex
 cases ry
 cases rx
 unfold storeAll
 rw[Y0]
 obtain ⟨_,hd,dd⟩:=oI I3.hok (.inl e) (fun _ h=>nomatch h)
 refine b8 (b8 (wpAny_dictSet_heap (knd:=pK X.prog X.w) (hsz:=u9 _) (show (pK X.prog X.w).room X.A from Nat.lt_of_succ_lt hu) (lA I3.hok kb) dd fun h' dd' hs=>d9 ?_))
 change m6 _ _ (forIn [] PUnit.unit _) _ _ _
 rw[Z9]
 refine d9 ⟨.ref s.heap.objs.size,_,?_,rfl,q2⟩
 rw[vJ] at dd'
 have he:∃q,h'.get? s.heap.objs.size=some q:=let ⟨q,_,_,hq,_⟩:=dd';⟨q,hq⟩
 exact zP I3 (by rw[e];exact au) hs he (uz (show 1<=i6 by decide) hd dd')
end
section
variable {X:Cx}{pins:List (Addr × Obj)}{σ:St}{H:Hp}{s:d7}
noncomputable def IK (P:j6) (w:r9) (d:Addr) (o:Obj) (xs:PX):It :=
 ⟨fun i H=>H d=some (.frz o (N6 P w d xs))/\i<xs.length,fun i H v H'=>∃p x,H p=none/\v=.ref p/\H'=n5 H p (.tup [.ref x.2.1,.ref x.2.2])/\xs[i]?=some x,fun i H=>H d=some (.frz o (N6 P w d xs))/\xs.length<=i⟩
variable {d:Addr}{xs:PX}
theorem E6.frzP {o:Obj}{es:Array T9}{ep:Nat} (I:E6 X pins σ H s) (e:H d=some (.frz o (N6 X.prog X.w d xs))) (hd:o.data=.dict es ep):
  s.heap.get? d=some o/\es.size=xs.length/\∀(i:Nat) x,xs[i]?=some x->∃en:T9,es[i]?=some en/\en.key=.ref x.2.1/\en.val=.ref x.2.2:=by
 obtain ⟨h1,⟨_,_,o',es',ep',h2,_,h3,h4,_⟩,_,_⟩:=(show P5 X.prog X.w H s.heap d (.frz o (N6 X.prog X.w d xs)) from I.hok d _ e)
 rw[h1] at h2;cases h2
 rw[hd] at h3;cases h3
 refine ⟨h1,by rw[<- G2,h4,d6,pJ],fun i x hx=>⟨Js (pK X.prog X.w) (x.1,x.2.1,.ref x.2.2),?_,rfl,rfl⟩⟩
 rw[<- jI,h4,A4]
 unfold jJ
 rw[A4,hx];rfl
theorem vj {P:j6}{w:r9}{K:m9}{els:List Expr}{kk:Nat}{pos:Pos}{it:Addr}{o:Obj}{es:Array T9}{ep:Nat} (hd:o.data=.dict es ep):
  uG P w K (.Tuple els kk pos) (IK P w d o xs) [it] it (fun i h=>∃ok ov,dz h it d i es.size ep ok ov) where
 mem:=xq _
 obj:=fun i h ⟨ok,ov,he⟩ c hc=>by
  rw[List.mem_singleton.mp hc]
  exact ⟨_,he,fun v q=>by cases q⟩
 keep:=fun i h h' ⟨ok,ov,he⟩ k=>⟨ok,ov,k _ (xq _) _ he⟩
 item:=by
  intro X hP hw hK hc i pins s σ H E I hf st hg
  subst hP hw hK
  obtain ⟨hF,hi⟩:=hg
  obtain ⟨ok,ov,he⟩:=st
  obtain ⟨h1,hsz,hget⟩:=I.frzP hF hd
  obtain ⟨en,e1,e2,e3⟩:=hget i _ (f6 hi)
  refine wm he h1 hd e1 fun h' z1 new sz keep=>?_
  rw[e2,e3] at z1 new
  refine ⟨_,rfl,wpAny_letOwnedTupleGo_items (s:={ s with heap:=h' }) z1 fun h2 z2 sb=>?_⟩
  have ilt:it<s.heap.objs.size:=j7 he
  have k2:∀c o,c ∉ [it]->s.heap.get? c=some o->h2.get? c=some o:=fun c o hc q=>have nz:c≠it:=fun z=>hc (List.mem_singleton.mpr z);sb.extBut _ _ nz (keep c o nz q)
  refine ⟨.ref s.heap.objs.size,_,I.yieldPair (t':=s.toks) (x:=.ref xs[i].2.1) (y:=.ref xs[i].2.2) hf k2 (sb.extBut _ _ (F6 ilt) new) rfl rfl,rfl,⟨_,_,I.hok.fresh (i8 _),rfl,rfl,f6 hi⟩,⟨_,_,z2⟩,fun c hc=>?_⟩
  rw[C0 (v8 (by rw[List.mem_singleton.mp hc];exact ilt))]
  exact (hf c hc).1
 done:=by
  intro X hP hw hK hc i pins s σ H E I hf st hg
  subst hP hw hK
  obtain ⟨hF,hi⟩:=hg
  obtain ⟨ok,ov,he⟩:=st
  obtain ⟨h1,hsz,_⟩:=I.frzP hF hd
  exact yz (I.ok.hd hc) he h1 hd (by lia) fun h' keep=>⟨rfl,I.turnedL (t':=s.toks) (ch:=[it]) (fun c o hc e=>keep c o (fun q=>hc (List.mem_singleton.mpr q)) e) hf⟩
 self:=fun _ _ _ _ _ ⟨_,_,he⟩ h=>rd he h
theorem E6.freezeP (I:E6 X pins σ H s) (e:H d=some (N6 X.prog X.w d xs)):∃o es ep,o.data=.dict es ep/\s.heap.get? d=some o/\o.ExactDict/\E6 X pins σ (n5 H d (.frz o (N6 X.prog X.w d xs))) s:=by
 have ok:=(show P5 X.prog X.w H s.heap d (N6 X.prog X.w d xs) from I.hok d _ e)
 obtain ⟨⟨_,_,o,es,ep,ho,hex,hd,_⟩,_,_⟩:=id ok
 refine ⟨o,es,ep,hd,ho,hex,?_⟩
 have oth:∀{b u},H b=some u->(∀φ,u≠.ext φ)->n5 H d (.frz o (N6 X.prog X.w d xs)) b=some u:=fun {b u} q n=>by
  rw[C0 (Dr q e (fun z=>n _ z))];exact q
 have tup:∀b ys,H b=some (.tup ys)->n5 H d (.frz o (N6 X.prog X.w d xs)) b=some (.tup ys):=fun b ys q=>oth q fun _ z=>by cases z
 have own:∀b c,H b=some (.own c)->n5 H d (.frz o (N6 X.prog X.w d xs)) b=some (.own c):=fun b c q=>oth q fun _ z=>by cases z
 exact I.step (H':=n5 H d (.frz o (N6 X.prog X.w d xs))) (h':=s.heap) (g':=s.gens) (d':=s.drawn) (t':=s.toks) (ch:=[]) (fun _ z=>nomatch z) (fun b o _ _ _ q _=>q) (fun b o _ _ _ q _=>⟨o.slots,q⟩)
  (fun b o _ _ n=>by
   by_cases hb:b=d
   ·subst hb;rw[e] at n;cases n
   ·rw[C0 hb];exact n) (fun b o _ q=>⟨o,q⟩) tup (fun b o u q=>oth q fun _ z=>by cases z) (fun b ps q=>⟨#[],by rw[oth q fun _ z=>by cases z];simp⟩) (fun m hm=>hm)
  (fun b ob q=>by
   by_cases hb:b=d
   ·subst hb
    rw[f7] at q;cases q
    exact ⟨ho,ok.stay (fun c v _ q=>q) (fun c q=>own c _ q) tup⟩
   ·rw[C0 hb] at q
    exact (I.hok b ob q).stay (fun c v _ q=>q) (fun c q=>own c _ q) tup) I.bare
noncomputable def Ft (P:j6) (w:r9) (td:TE):TI:=fun σ H R=>td σ H fun x H1=>∃d xs,x=.ref d/\H1 d=some (N6 P w d xs)/\∀o,R (IK P w d o xs) (n5 H1 d (.frz o (N6 P w d xs)))
theorem mM {e:Expr}{els:List Expr}{kk:Nat}{pt apos cpos:Pos}{td:TE} (ho:PE X e td) (hbase:qF e "items" X.env (eval e X.env)=eval e X.env:=by rfl) (hline:(apos.endLine == cpos.line)=true:=by rfl):
  PI X (.Tuple els kk pt) (.Call (.Attribute e "items" apos) [] [] cpos) (Ft X.prog X.w td):=by
 intro pins s σ H R I h
 refine wpAny_Call_method0_late hbase hline (X0 (ho pins s σ H _ I h) fun v s1 ⟨x,H1,I1,r1,d,xs,ex,hd,q⟩=>?_)
 subst ex
 cases r1
 obtain ⟨o,es,ep,hdat,hob,hex,I2⟩:=I1.freezeP hd
 obtain ⟨⟨_,hsys,_⟩,_,_⟩:=(show P5 X.prog X.w H1 s1.heap d (N6 X.prog X.w d xs) from I1.hok d _ hd)
 refine ⟨"dict","dict.items",uM,uL,PySem.F.type_dict_items,⟨o,hob,hex.1⟩,fun a e=>by cases e;exact ⟨o,hob,hex.2.1⟩,iW rfl (PySem.evalArgs_none ?_)⟩
 refine yy hsys ⟨o,hob,hex.1⟩ ?_
 refine wk (s:={ s1 with heap:=s1.heap.push { cls:=.type "dict_items",data:=.fields #[.ref d] } }) ⟨_,t7 _ rfl,rfl,rfl⟩ (f9 _ hob) hdat ?_
 have I3:=I2.kept (h':=s1.heap.push { cls:=.type "dict_items",data:=.fields #[.ref d] }) (t':=s1.toks) fun b o e=>f9 _ e
 refine ⟨_,[_],_,_,_,rfl,I3.kept (t':=s1.toks) fun b o e=>f9 _ e,vj hdat,⟨_,_,t7 _ rfl⟩,fun b hb=>?_,q o⟩
 rw[List.mem_singleton.mp hb]
 exact I3.fpOk (i8 _) (I3.hok.fresh (i8 _))
end
end L2
namespace L2
open PySem PySem.Spec PyProof.Rows HT
section
variable {X:Cx}{H:Hp}
theorem rZ {P:j6}{w:r9}{h:Heap}{q:Addr}{ms:List Int} (ok:cV P w H h) (e:H q=some (.tup (ms.map V.int))):S9 h (.ref q) ms:=by
 obtain ⟨_,its,r,t⟩:=(show P5 P w H h q (.tup (ms.map V.int)) from ok q _ e)
 exact ⟨q,its,rfl,t,yB r⟩
theorem S9.keep {h h':Heap}{v:b9}{ns:List Int} (x:S9 h v ns) (k:∀a o,v=.ref a->h.get? a=some o->h'.get? a=some o):S9 h' v ns:=by
 obtain ⟨a,us,e,⟨o,ho,r⟩,i⟩:=x
 exact ⟨a,us,e,⟨o,k a o e ho,r⟩,i⟩
end
section
variable {X:Cx}{H:Hp}
theorem rL:∀{as:List Addr}{its:List b9},M9 (as.map V.ref) its->its=as.map y6
 | [],its,r=>by cases r;rfl
 | a::as,its,r=>by
  cases r with
  | cons r1 rr =>
   cases r1
   rw[rL rr];rfl
noncomputable def yF (h:Heap) (a:Addr):b9:=match h.get? a with
 | some o=>(match o.data with | .seq xs _=>xs.getD 0 .none|_=>.none)
 | none=>.none
end
end L2
namespace L2
open PySem PySem.Spec PyProof.Rows
theorem wk3 {σ0:St} (hσ:σ0[0]?=some none/\σ0[1]?=some none/\σ0[2]?=some none) (x y z:V):Wk σ0 (((σ0.set 0 (some x)).set 1 (some y)).set 2 (some z)):=by
 refine ⟨by simp,fun j u e=>?_⟩
 by_cases h2:j=2
 ·subst h2;rw[hσ.2.2] at e;cases e
 ·rw[G5 (J9 h2)]
  by_cases h1:j=1
  ·subst h1;rw[hσ.2.1] at e;cases e
  ·rw[G5 (J9 h1)]
   by_cases h0:j=0
   ·subst h0;rw[hσ.1] at e;cases e
   ·rw[G5 (J9 h0)];exact e
section
variable {K:m9}{σ0:St}{te:TE}{H:Hp}{F:List V->Hp->Prop}
theorem sm {a:Addr}{xs:List V} (hn:xs.length<=i6) (Pv:Nat->List V->Hp->Prop) (h0:Pv 0 [] H) (hl:∀i ys H,Pv i ys H->ys.length=i) (hq:∀i ys H,i<=xs.length->Pv i ys H->eV K H a xs) (hσ:σ0[0]?=some none/\σ0[1]?=some none/\σ0[2]?=some none)
  (hs:∀i ys H x,xs[i]?=some x->Pv i ys H->∃r y z v,x=.ref r/\dH K H r [y,z,v]/\te (((σ0.set 0 (some y)).set 1 (some z)).set 2 (some v)) H fun u H'=>Pv (i+1) (ys++[u]) H') (hd:∀ys H,Pv xs.length ys H->F ys H):
  Bn (Gm K a) σ0 (qi K 3 (bP (V7 0) (bP (V7 1) (bP (V7 2) rj)))) S1 te H F:=by
 refine ⟨fun i m ys H=>m=xs.length - i/\i<=xs.length/\Pv i ys H,⟨xs.length,by simp,u9 _,h0⟩,?_⟩
 rintro i m ys H2 ⟨rfl,hi,p⟩
 have q:=hq i ys H2 hi p
 refine ⟨by rw[hl i ys H2 p];lia,?_⟩
 by_cases hlt:i<xs.length
 ·refine .inr ⟨⟨xs,xs[i],q,by simp[hlt]⟩,fun y H'=>Pv (i+1) (ys++[y]) H',fun _=>False,fun y H' q=>⟨xs.length - (i+1),by lia,rfl,hlt,q⟩,fun _ q=>q.elim,fun x H3 y=>?_⟩
  obtain ⟨rfl,y⟩:=y
  obtain ⟨r,y1,z1,v1,rfl,hr,ht⟩:=hs i ys _ x (y xs q) p
  exact ⟨r,[y1,z1,v1],rfl,hr,rfl,y1,[z1,v1],rfl,z1,[v1],rfl,v1,[],rfl,rfl,wk3 hσ _ _ _,ht⟩
 ·have e:i=xs.length:=by lia
  subst e
  exact .inl ⟨⟨xs,q,i8 _⟩,hd ys H2 p⟩
end
section
variable {X:Cx}
end
section
variable {X:Cx}{K:m9}
end
section
variable {prog:j6}{w:r9}{A:A5}{E:b9->d7->Prop}{s:d7}
end
section
variable {X:Cx}
end
section
variable {X:Cx}{K:m9}
end
section
variable {prog:j6}{w:r9}{A:A5}{E:b9->d7->Prop}{s:d7}
end
section
variable {X:Cx}{pins:List (Addr × Obj)}{σ:St}{H:Hp}{s:d7}
end
section
variable {prog:j6}{w:r9}{A:A5}{E:b9->d7->Prop}{s:d7}
variable {d:Addr}{od:Obj}{es:Array T9}{ep:Nat}
theorem yu {Q:b9->d7->Prop} (hd:(d == aa)=false) (hT:s.TypeIs (.ref d) "dict") (at_d:s.heap.get? d=some od) (dat:od.data=.dict es ep)
  (q:Q (.ref s.heap.objs.size) { s with heap:=s.heap.push { cls:=.type "dict_keyiterator",data:=.fields #[.ref d,.int 0 0,.int es.size 0,.int ep 0] } }):
  m6 (t8 prog w) A (nX (.ref d)) Q E s:=by
 refine sE hT JC (E8 JC hT F.entry_dict_iter ?_ (F.args_dict_iter_1 _))
 unfold bD.«dict.__iter__»
 refine b8 ?_
 unfold Builtin.Dict.dictSlotNone
 refine b8 (FJ hT ?_)
 show m6 _ _ (pure (y6 d)) _ _ s
 refine d9 ?_
 show m6 _ _ (bX d >>= _) _ _ s
 unfold bX
 rw[if_neg (by rw[hd];exact A0)]
 refine b8 (d9 ?_)
 refine b8 (bB at_d dat (b8 (cX at_d dat ?_)))
 refine b8 ?_
 unfold newFields
 refine E4 (d9 ⟨_,rfl,"dict_keyiterator",_,⟨_,t7 _ rfl,rfl⟩,F.slot_dict_keyiterator_next.lookup,?_⟩)
 simpa [X3] using q
theorem yw {it:Addr}{i:Nat}{en:T9}{Q:Option b9->d7->Prop} (on:s.heap.IsKeyIter it d i es.size ep)
  (at_d:s.heap.get? d=some od) (dat:od.data=.dict es ep) (hx:es[i]?=some en)
  (q:∀h',h'.IsKeyIter it d (i+1) es.size ep->K3 it s.heap h'->Q (some en.key) { s with heap:=h' }):m6 (t8 prog w) A (bQ (.ref it)) Q E s:=by
 obtain ⟨ob,at_i,cls_i,flds⟩:=id on
 unfold bQ
 refine b8 (V8 (F0 (name:=U6 "__next__") on.typeIs aY (E8 aY on.typeIs uP ?_ (sV _))))
 refine b8 (d9 (b8 (b8 ?_)))
 first|refine b8 (aO on.typeIs (d9 ?_))|refine b8 (cK on.typeIs (d9 ?_))
 refine b8 (nV at_i flds ?_)
 have own:S2 "dict_keyiterator"=false:=by decide
 simp only[own,P8,if_false]
 show m6 _ _ (if (y6 d == E9)=true then _ else _) _ _ s
 rw[if_neg (show ¬ ((y6 d == E9)=true) from A0)]
 refine b8 (d9 (b8 (bB at_d dat ?_)))
 rw[if_neg (by simp)]
 refine b8 (d9 (b8 (cX at_d dat ?_)))
 rw[if_neg (by simp)]
 refine d9 ?_
 have lt:i<es.size:=(Array.getElem?_eq_some_iff.mp hx).1
 have ev:es[i]=en:=by rw[G1 lt] at hx;exact E7 hx
 simp only[show ¬ ((i:Int)<0) from by lia,if_false,S0,G1 lt]
 refine b8 ?_
 first|refine b8 (aO on.typeIs (d9 ?_))|refine b8 (cK on.typeIs (d9 ?_))
 refine b8 (FM on.typeIs ?_)
 show m6 _ _ (nW (.ref it) 1 (X3 ((i:Int)+1)) >>= _) _ _ s
 refine b8 (az at_i flds (by simp) ?_)
 have on':(s.heap.update it (Q9 (·.setIfInBounds 1 (X3 ((i:Int)+1))))).IsKeyIter it d (i+1) es.size ep :=
  ⟨_,X6 _ at_i (aW (Q2 flds _)),(oQ ..).trans cls_i,by rw[Q2 flds];simp[X3]⟩
 have ty':kZ { s with heap:=s.heap.update it (Q9 (·.setIfInBounds 1 (X3 ((i:Int)+1)))) } (.ref it) "dict_keyiterator":=on'.typeIs (s:={ s with heap:=s.heap.update it (Q9 (·.setIfInBounds 1 (X3 ((i:Int)+1)))) })
 refine b8 (P9 (b8 (FM ty' ?_)))
 show m6 _ _ (pure es[i].key) _ _ _
 rw[ev]
 exact d9 (d9 ⟨_,rfl,d9 (q _ on' (U4 ..))⟩)
theorem AR {it:Addr}{i:Nat}{Q:Option b9->d7->Prop} (hh:A.handled=none) (on:s.heap.IsKeyIter it d i es.size ep)
  (at_d:s.heap.get? d=some od) (dat:od.data=.dict es ep) (hge:es.size<=i) (q:∀h',kO it s.heap h'->Q none { s with heap:=h' }):m6 (t8 prog w) A (bQ (.ref it)) Q E s:=by
 obtain ⟨ob,at_i,cls_i,flds⟩:=id on
 unfold bQ
 refine b8 (V8 (F0 (name:=U6 "__next__") on.typeIs aY (E8 aY on.typeIs uP ?_ (sV _))))
 refine b8 (d9 (b8 (b8 ?_)))
 first|refine b8 (aO on.typeIs (d9 ?_))|refine b8 (cK on.typeIs (d9 ?_))
 refine b8 (nV at_i flds ?_)
 have own:S2 "dict_keyiterator"=false:=by decide
 simp only[own,P8,if_false]
 show m6 _ _ (if (y6 d == E9)=true then _ else _) _ _ s
 rw[if_neg (show ¬ ((y6 d == E9)=true) from A0)]
 refine b8 (d9 (b8 (bB at_d dat ?_)))
 rw[if_neg (by simp)]
 refine b8 (d9 (b8 (cX at_d dat ?_)))
 rw[if_neg (by simp)]
 refine d9 ?_
 simp only[show ¬ ((i:Int)<0) from by lia,if_false,S0,cN hge]
 refine b8 ?_
 first|refine b8 (aO on.typeIs (d9 ?_))|refine b8 (cK on.typeIs (d9 ?_))
 show m6 _ _ (nW (.ref it) 0 .none >>= _) _ _ s
 refine b8 (az at_i flds (by simp) ?_)
 show m6 _ _ (Eu (.type "StopIteration") [] >>= _) _ _ _
 refine b8 ?_
 simp only[Eu,Gs]
 refine b8 (E4 ?_ (by size_fits))
 refine b8 (m:=dX _ _) (wO (a:=E9) (by first|rfl | (simp only[dX];rfl)) ?_)
 refine E4 ?_ (by size_fits)
 simp only[raiseNew]
 refine b8 (BB ?_)
 rw[show A.in1.handled=none from hh]
 refine b8 (d9 (Gp ?_))
 refine b8 (aA (T:="StopIteration") (b:=true) ⟨_,t7 _ rfl,rfl⟩ nY ?_)
 exact d9 (q _ (((U4 ..).extBut.push _).push _))
end
section
variable {X:Cx}{pins:List (Addr × Obj)}{σ:St}{H:Hp}{s:d7}
end
section
variable {X:Cx}
open Classical in
end
end L2
namespace So
open PySem PyProof.Rows PySem.Spec L2
section
variable {prog:j6}{w:r9}{A:A5}{E:b9->d7->Prop}{s:d7}{rk:n8->Int}{M:n8->Prop}{κ:cM}
end
end So
namespace L2
open PySem PySem.Spec PyProof.Rows HT
section
variable {X:Cx}{H:Hp}
end
end L2
namespace L2
open PySem PySem.Spec PyProof.Rows
section
variable {X:Cx}
open Classical in
end
section
variable {X:Cx}
end
section
variable {prog:j6}{w:r9}{A:A5}{R:vb->d7->Prop}{s:d7}
end
section
variable {X:Cx}{pins:List (Addr × Obj)}{σ:St}{H H':Hp}{s s':d7}{scope:Q0}{N:List Str}{ix:List (Option Nat)}{fp:List Addr}
end
section
variable {X:Cx}{scope:Q0}{N:List Str}{ix:List (Option Nat)}{kx vx target iter:Expr}{pos:Pos}{wi:TI}{g:TG}{tk tv:TE}
end
section
variable {X:Cx}
noncomputable abbrev TJx:=St->Hp->(Str->Hp->Prop)->Prop
section
variable {es:List Expr}{n:Nat}{t:TJx}
end
end
section
variable {prog:j6}{w:r9}{A:A5}{E:b9->d7->Prop}{s:d7}
end
section
variable {X:Cx}{pins:List (Addr × Obj)}{σ:St}{H:Hp}{p d it:Addr}{rs:List Addr}{kvs:List (jt × V)}{A:A5}{R:vb->d7->Prop}
end
section
variable {X:Cx}{pins:List (Addr × Obj)}{σ:St}{H:Hp}{s:d7}
end
section
variable {X:Cx}
noncomputable def ig:V->Option Int->Option Int->Hp->VK->Prop:=fun x lo hi H Q=>∃a,x=.str a/\a.length<=i6/\Q (.str (Txt.slice a lo hi)) H
end
section
variable {prog:j6}{w:r9}{A:A5}{E:b9->d7->Prop}{s:d7}
end
section
variable {X:Cx}{pos:Pos}
end
section
variable {prog:j6}{w:r9}{A:A5}{R:vb->d7->Prop}{s:d7}{elt t0 i0 t1 i1:Expr}{fs:List Expr}{scope:Q0}{pos:Pos}{it acc:b9}{env:Env}
end
section
variable {X:Cx}{scope:Q0}{N:List Str}{ix:List (Option Nat)}{elt t0 i0 t1 i1:Expr}{fs:List Expr}{pos:Pos}{wi wj:TI}{g g1:TG}{te:TE}{tc:TT}
end
end L2
namespace L2
open PySem PySem.Spec PyProof.Rows HT
section
open PySem.SeqAt
open PySem.AutoSeq1 (wpAny_loadPart')
open PySem.MeetsSeq PySem.MeetsSeq2 PySem.MeetsSeq3
end
section
variable {prog:j6}{w:r9}{A:A5}{s:d7}
end
section
variable {X:Cx}
end
end L2
namespace L2
open PySem PySem.Spec PyProof.Rows
section
variable {X:Cx}{pins:List (Addr × Obj)}{σ:St}{H:Hp}{p d it:Addr}{rs:List Addr}{kvs:List (List jt × V)}{A:A5}{R:vb->d7->Prop}
end
end L2
namespace L2
open PySem PySem.Spec PyProof.Rows HT
section
variable {prog:j6}{w:r9}{A:A5}{E:b9->d7->Prop}{s:d7}
end
section
variable {X:Cx}{H:Hp}
end
section
variable {prog:j6}{w:r9}{A:A5}{E:b9->d7->Prop}{s:d7}
end
section
variable {X:Cx}{H:Hp}
end
theorem Fl (c:List Int) (a b:List Int):P4 (c++a) (c++b)=P4 a b:=by
 induction c with
 | nil=>rfl
 | cons x c ih=>rw[M3,M3,bL,if_pos rfl];exact ih
theorem pZ:∀{a b:List Int} (c d:List Int),a.length=b.length->a≠b->P4 (a++c) (b++d)=P4 a b
 | [],[],_,_,_,h=>absurd rfl h
 | x::a,y::b,c,d,hl,h=>by
  rw[M3,M3,bL,bL]
  by_cases e:x=y
  ·rw[if_pos e,if_pos e]
   exact pZ c d (by simpa using hl) fun z=>h (by rw[e,z])
  ·rw[if_neg e,if_neg e]
 | [],_::_,_,_,hl,_=>by simp at hl
 | _::_,[],_,_,hl,_=>by simp at hl
section
variable {prog:j6}{w:r9}{A:A5}{E:b9->d7->Prop}{s:d7}
theorem S9.eqT {p q:b9}{ns:List Int} (h1:S9 s.heap p ns) (h2:S9 s.heap q ns) (hu:A.units<bj):sP A s p q true:=by
 obtain ⟨a,us,rfl,⟨oa,ha,hca,na,hda⟩,i1⟩:=h1
 obtain ⟨b,vs,rfl,⟨ob,hb,hcb,nb,hdb⟩,i2⟩:=h2
 have l1:=lK i1
 have l2:=lK i2
 by_cases hab:a=b
 ·subst hab
  exact Al _
 ·have:=wW hab (xo (A:=A) (e:=fun _=>true) ⟨oa,ha,hca,na,hda⟩ ⟨ob,hb,hcb,nb,hdb⟩ hu fun j h1 h2=>by
   have h1':j<us.length:=by simpa using h1
   have h2':j<vs.length:=by simpa using h2
   obtain ⟨t,ex⟩:=lL i1 (f6 h1')
   obtain ⟨u,ey⟩:=lL i2 (f6 h2')
   have e1:us.toArray[j]=.int (ns.getD j 0) t:=by rw[eI];exact ex
   have e2:vs.toArray[j]=.int (ns.getD j 0) u:=by rw[eI];exact ey
   rw[e1,e2]
   have e3:true=(ns.getD j 0 == ns.getD j 0):=by simp
   rw[e3]
   exact jN _ t _ u)
  have e:((R0 (min us.toArray.size vs.toArray.size)).all (fun _=>true)&&us.toArray.size == vs.toArray.size)=true:=by
   rw[A6,iT,beq_iff_eq,n9,n9]
   exact ⟨fun _ _=>rfl,by lia⟩
  rw[e] at this
  exact this
theorem zG {b fin:Bool}{Q:Bool->d7->Prop} (h:Q fin s):∀(l:List b9) (i:Nat),W.KatLex prog w A b fin Q (l.zip l) i s
 | [],_=>W.kat_nil h
 | v::l,i=>xn (Al v prog w _ _ (W.kat_yes (zG h l (i+1))))
theorem EK {x y:Addr}{p1 p2 q1 q2:b9}{rx ry:List b9}{n k:Nat}{ox oy:Obj}{a1 a2 b1 b2:List Int}{Q:Bool->d7->Prop} (hx:s.heap.get? x=some ox) (dx:ox.data=.seq (p1::p2::rx).toArray n) (hy:s.heap.get? y=some oy)
  (dy:oy.data=.seq (q1::q2::ry).toArray k) (h1:S9 s.heap p1 a1) (h2:S9 s.heap p2 a2) (g1:S9 s.heap q1 b1) (g2:S9 s.heap q2 b2) (hl:a1.length=b1.length) (hsame:a1++a2=b1++b2->x=y) (hu:A.units<bj) (hq:Q (P4 (a1++a2) (b1++b2)) s):
  m6 (t8 prog w) A (keyLt' (tuples' false) (.ref x) (.ref y)) Q E s:=by
 refine W.kat_lt hx dx hy dy ?_
 by_cases e1:a1=b1
 ·subst e1
  by_cases e2:a2=b2
  ·subst e2
   cases hsame rfl
   rw[hx] at hy;cases hy
   rw[dx] at dy
   injection dy with e _
   rw[<- e]
   rw[uk] at hq
   rw[decide_eq_false (Z0 _)]
   exact zG hq _ 0
  ·rw[Fl] at hq
   refine xn (S9.eqT (A:=A) h1 g1 hu prog w _ _ (W.kat_yes (xn (S9.eq (A:=A) h2 g2 hu e2 prog w _ _ (W.kat_no ?_)))))
   rw[O3]
   exact W.kat_one p2 q2 (S9.lt h2 g2 hu hq)
 ·rw[pZ _ _ hl e1] at hq
  refine xn (S9.eq (A:=A) h1 g1 hu e1 prog w _ _ (W.kat_no ?_))
  rw[O3]
  exact W.kat_one p1 q1 (S9.lt h1 g1 hu hq)
end
theorem sf {h:Heap}{a:Addr}{o:Obj}{f:b9}{tl:List b9}{n:Nat} (e:h.get? a=some o) (d:o.data=.seq (f::tl).toArray n):yF h a=f:=by
 unfold yF
 rw[e]
 dsimp only
 rw[d];rfl
theorem wg {h:Heap}:∀{as:List Addr},(∀a∈as,∃(o:Obj) (f:b9) (tl:List b9) (n:Nat),h.get? a=some o/\o.cls=.type "tuple"/\o.data=.seq (f::tl).toArray n)->W.KatTups h (as.map y6) (as.map (yF h))
 | [],_=>W.KatTups.nil
 | a::as,hh=>by
  obtain ⟨o,f,tl,n,e1,e2,e3⟩:=hh a (.head _)
  exact W.KatTups.cons e1 e2 e3 (by rw[sf e1 e3];rfl) (wg fun b hb=>hh b (.tail _ hb))
section
variable {X:Cx}{pins:List (Addr × Obj)}{σ:St}{H:Hp}{s:d7}
theorem Av {v:b9}{as:List Addr}{key:Addr->List Int}{Q:VK} (I:E6 X pins σ H s) (hu:X.A.units+64<bj) (h128:as.length<128)
  (hcol:∀R:List b9->d7->Prop,(∀h' tk,s.heap.objs.size<h'.objs.size->(∀b o,s.heap.get? b=some o->h'.get? b=some o)->R (as.map y6) { s with heap:=h',toks:=tk })->m6 (t8 X.prog X.w) X.A.in1 (Lv v) R X.xe s)
  (hob:∀a∈as,∃(o:Obj) (f:b9) (tl:List b9) (n:Nat),s.heap.get? a=some o/\o.cls=.type "tuple"/\o.data=.seq (f::tl).toArray n/\∃ns,S9 s.heap f ns)
  (hlt:∀{A':A5}{E':b9->d7->Prop}{s1:d7}{R:Bool->d7->Prop}{x y:Addr},A'.units<bj->(∀b o,s.heap.get? b=some o->s1.heap.get? b=some o)->x∈as->y∈as->R (P4 (key x) (key y)) s1->m6 (t8 X.prog X.w) A' (keyLt' (tuples' false) (.ref x) (.ref y)) R E' s1)
  (q:∀(D:Addr) (as':List Addr) (H':Hp),as'.Perm as->as'.Pairwise (fun a b=>P4 (key b) (key a)=false)->i7 H H'->H D=none->H' D=some (.lst (as'.map V.ref))->Q (.ref D) H'):
  m6 (t8 X.prog X.w) X.A (call (.builtin "sorted") [v]) (EP X pins σ Q) X.xe s:=by
 refine Calls.call_function_entry kind_sorted plain_sorted entry_sorted (args_sorted1 _) ?_
 unfold bD.«sorted»
 refine b8 (m:=checkCount "sorted" 1 1 _) (d9 ?_)
 refine b8 (hcol _ fun h' tk hsz k1=>?_)
 have hz:(as.map y6).length<=i6:=by rw[d6,aP];lia
 refine b8 (wpAny_newList ?_ hz)
 have hB:(h'.push (fX "list" (as.map y6).toArray 0)).get? h'.objs.size=some (fX "list" (as.map y6).toArray 0):=t7 _ rfl
 have k2:∀b o,s.heap.get? b=some o->(h'.push (fX "list" (as.map y6).toArray 0)).get? b=some o:=fun b o e=>f9 _ (k1 b o e)
 have lt1:∀b o,s.heap.get? b=some o->b≠h'.objs.size:=fun b o e=>v8 (LZ (j7 e) hsz)
 change m6 _ _ _ _ _ { s with heap:=h'.push (fX "list" (as.map y6).toArray 0),toks:=tk }
 refine b8 (P9 (E8 slot_list_sort ⟨_,hB,rfl⟩ entry_list_sort ?body (args_list_sort _)))
 obtain ⟨ks,eks⟩:∃ks:List (List Int),ks=as.map key:=⟨_,rfl⟩
 have ksM:∀{a},a∈as->key a∈ks:=fun ha=>by rw[eks];exact List.mem_map.mpr ⟨_,ha,rfl⟩
 let rv:b9->Int:=fun v=>match v with | .ref a=>(nK ks (key a):Int)|_=>0
 refine So.Aw (rv:=rv) (s:={ s with heap:=h'.push (fX "list" (as.map y6).toArray 0),toks:=tk }) (vs:=as.map y6) hB (by rw[d6];exact h128) (fun h2 h1 kp=>?_) (fun h5 vs' c' hpm hup kp hB5=>?_)
 ·have k4:∀b o,s.heap.get? b=some o->h1.get? b=some o:=fun b o e=>kp b o (lt1 b o e) (k2 b o e)
  rw[d6] at h2
  refine W.kat_kind (T:=.type "tuple") (wg (as:=as) fun a ha=>?_) (by rw[d6];lia) (fun f hf=>?_) (by decide) ⟨rfl,fun x y hx hy R hR=>?_⟩
  ·obtain ⟨o,f,tl,n,e1,e2,e3,_⟩:=hob a ha
   exact ⟨o,f,tl,n,k4 _ _ e1,e2,e3⟩
  ·obtain ⟨a,ha,rfl⟩:=List.mem_map.mp hf
   obtain ⟨o,f,tl,n,e1,e2,e3,ns,t1⟩:=hob a ha
   rw[sf (k4 _ _ e1) e3]
   obtain ⟨b,us,eb,⟨ob,hob,hcb,_⟩,_⟩:=t1
   rw[eb]
   exact W.kitAt_ty _ _ ⟨ob,k4 _ _ hob,hcb⟩
  ·obtain ⟨x1,x2⟩:=x
   obtain ⟨y1,y2⟩:=y
   dsimp only at hx hy hR ⊢
   obtain ⟨ax,hax,rfl⟩:=List.mem_map.mp hx
   obtain ⟨ay,hay,rfl⟩:=List.mem_map.mp hy
   refine hlt (by show X.A.units+1+1<bj;lia) (fun b o e=>k4 b o e) hax hay ?_
   have eR:decide (rv (.ref ax)<rv (.ref ay))=P4 (key ax) (key ay):=vK (ksM hax) (ksM hay)
   rw[<- eR]
   exact hR
 ·refine ⟨_,rfl,d9 ⟨_,rfl,?_⟩⟩
  obtain ⟨as',hL,rfl⟩:=lB hpm
  have k5:∀b o,s.heap.get? b=some o->h5.get? b=some o:=fun b o e=>kp b o (lt1 b o e) (k2 b o e)
  have hfr:H h'.objs.size=none:=I.hok.fresh (U8 hsz)
  have J:=I.laid (a:=h'.objs.size) (o:=.lst (as'.map V.ref)) (h':=h5) (t':=tk) k5 (U8 hsz) ⟨?_,as'.map y6,c',?_,hB5⟩
  ·refine ⟨.ref h'.objs.size,_,J,rfl,q _ as' _ hL ?_ (i7.new hfr) hfr f7⟩
   rw[gR] at hup
   refine eZ ?_ hup
   intro t u ht hu' hle
   have:=vK (ksM (hL.mem_iff.mp hu')) (ksM (hL.mem_iff.mp ht))
   have hle':(nK ks (key t):Int)<=nK ks (key u):=hle
   rw[decide_eq_false (by lia)] at this
   exact this.symm
  ·rw[d6,hL.length_eq,aP];lia
  ·clear hup hpm hB5 hL
   induction as' with
   | nil=>exact .nil
   | cons t L ih=>exact .cons rfl ih
end
end L2
namespace L2
open PySem PySem.Spec PyProof.Rows HT HP
section
variable {prog:j6}{w:r9}{A:A5}{E:b9->d7->Prop}{s:d7}
theorem AW {d:Addr}{od:Obj}{es:Array T9}{ep:Nat} (lo:(d == aa)=false) (cl:od.cls=.type "dict") (dat:od.data=.dict es ep):W.KdlSrc prog w "dict" d d es.size (fun i v=>∃en:T9,es[i]?=some en/\v=en.key) (fun h=>h.get? d=some od) where
 type:=fun _ m=>⟨od,m,cl⟩
 there:=fun _ m=>⟨j7 m,j7 m⟩
 keep:=fun _ _ m k=>k d (.inl rfl) _ m
 notList:=by decide
 notTuple:=by decide
 hint:=fun _ _ _ _ m q=>W.kdl_hint_dict ⟨od,m,cl⟩ q
 iter:=fun A s hh m=>by
  have ne:d≠s.heap.objs.size:=v8 (j7 m)
  refine ⟨_,(fun i h=>h.IsKeyIter s.heap.objs.size d i es.size ep/\h.get? d=some od),(fun _ _ q=>yu lo ⟨od,m,cl⟩ m dat q),⟨fun b hb=>by simp at hb;simp[hb],fun _ _ _ st k=>⟨st.1.at fun o e=>k _ (by simp) o e,k d (by simp) _ st.2⟩,fun i s' Q E hi st q=>?_,fun s' Q E st q=>?_,fun _ _ _ _ st q=>wpAny_pyIter_keyiter st.1 q⟩,⟨⟨_,t7 _ rfl,rfl,rfl⟩,f9 _ m⟩⟩
  ·exact yw st.1 st.2 dat (G1 hi) fun h' on sb=>q _ h' s'.toks ⟨_,G1 hi,rfl⟩ ⟨on,sb.extBut _ _ ne st.2⟩ fun b o hb e=>sb.extBut b o (fun z=>hb (by simp[z])) e
  ·exact AR hh st.1 st.2 dat (i8 _) fun h' x=>q h' s'.toks fun b o hb e=>x b o (fun z=>hb (by simp[z])) e
theorem rm {d:Addr}{od:Obj}{es:Array T9}{ep:Nat}{Q:List b9->d7->Prop} (hh:A.handled=none) (lo:(d == aa)=false) (ho:s.heap.get? d=some od) (cl:od.cls=.type "dict") (dat:od.data=.dict es ep) (hsz:es.size<=i6)
  (h:∀h' tk,s.heap.objs.size<h'.objs.size->(∀b o,s.heap.get? b=some o->h'.get? b=some o)->Q (es.toList.map qT) { s with heap:=h',toks:=tk }):m6 (t8 prog w) A (Lv (.ref d)) Q E s:=by
 have lt:=j7 ho
 unfold Lv
 refine b8 (wpAny_runValue (codeAny_builtin F.entry_proto_collect ?_))
 rw[yV F.plain_proto_collect _]
 change m6 _ A.in1 (newList [] >>= fun l=>again (.builtin "list.__iadd__" ⟨[l,.ref d],[]⟩)) _ _ s
 refine b8 (E4 (d9 ⟨plainId_quiet Jb _,codeAny_builtin F.entry_list_iadd ?_⟩))
 rw[yV Jb _]
 have hS1:(s.heap.push { cls:=.type "list",data:=.seq ([]:List b9).toArray }).get? s.heap.objs.size=some { cls:=.type "list",data:=.seq #[] }:=t7 _ rfl
 change m6 _ A.in1 (Builtin.List.listExtendWith (.ref s.heap.objs.size) (.ref d) (.ref s.heap.objs.size)) _ _ _
 have key:=W.kdl_extend (A:=A) (s:={ s with heap:=s.heap.push { cls:=.type "list",data:=.seq ([]:List b9).toArray } }) (AW (prog:=prog) (w:=w) lo cl dat)
  (R:=fun (q:vb) (s':d7)=>∃(h':Heap) (tk:Nat) (acc':Array b9) (c':Nat),q=.ok (.ret (.ref s.heap.objs.size))/\s'={ s with heap:=h',toks:=tk } /\
   (∀b o,s.heap.get? b=some o->h'.get? b=some o)/\h'.get? s.heap.objs.size=some { cls:=.type "list",dict:=none,data:=.seq acc' c',slots:=#[] }/\ItemsOf (fun i v=>∃en:T9,es[i]?=some en/\v=en.key) acc' es.size)
  hh (f9 _ ho) s.heap.objs.size (F6 lt) (F6 lt) (.ref s.heap.objs.size) 0 hS1
  (fun h' tk acc' c' hk hS' hacc=>⟨h',tk,acc',c',rfl,rfl,fun b o e=>hk b o (v8 (j7 e)) (f9 _ e),hS',hacc⟩) hsz
 have out:∀(h':Heap) (tk:Nat) (acc':Array b9) (c':Nat),(∀b o,s.heap.get? b=some o->h'.get? b=some o)->h'.get? s.heap.objs.size=some { cls:=.type "list",dict:=none,data:=.seq acc' c',slots:=#[] }->ItemsOf (fun i v=>∃en:T9,es[i]?=some en/\v=en.key) acc' es.size ->
   m6 (t8 prog w) A (do
    let o <- load s.heap.objs.size
    match o.data with
    | .seq xs _=>pure xs.toList
    | _=>unsupported "internal:collect") Q E { s with heap:=h',toks:=tk }:=fun h' tk acc' c' k1 k2 k3=>by
  refine b8 (wpAny_load k2 (d9 ?_))
  change Q acc'.toList _
  have e:acc'.toList=es.toList.map qT:=by
   refine gS fun i=>?_
   rw[A4,jI,jI]
   by_cases hi:i<es.size
   ·obtain ⟨en,e1,e2⟩:=k3.2 i _ (G1 (show i<acc'.size by rw[k3.1];exact hi))
    rw[G1 (show i<acc'.size by rw[k3.1];exact hi),e1,e2];rfl
   ·have h1:=k3.1
    rw[cN (show acc'.size<=i by lia),cN (show es.size<=i by lia)];rfl
  rw[e]
  exact h h' tk (j7 k2) k1
 refine K5 key (fun fin s' x=>?_) fun e s' x=>?_
 ·cases fin with
  | done f =>
   obtain ⟨h',tk,acc',c',e,rfl,k1,k2,k3⟩:=x
   cases e
   exact out h' tk acc' c' k1 k2 k3
  | again c1 =>
   refine ⟨x.1,gM x.2 fun r s2 y=>?_⟩
   obtain ⟨h',tk,acc',c',e,rfl,k1,k2,k3⟩:=y
   subst e
   exact out h' tk acc' c' k1 k2 k3
 ·obtain ⟨_,_,_,_,z,_⟩:=x
  cases z
end
noncomputable def IA (H:Hp) (a:Addr) (u v:List Int):Prop:=∃c d tl,H a=some (.tup (.ref c::.ref d::tl))/\H c=some (.tup (u.map V.int))/\H d=some (.tup (v.map V.int))
structure Iz (H:Hp) (as:List Addr) (n:Nat) (ku kv:Addr->List Int):Prop where
 at_:∀a∈as,IA H a (ku a) (kv a)
 len:∀a∈as,(ku a).length=n
 nd:(as.map fun a=>ku a++kv a).Nodup
section
variable {X:Cx}{pins:List (Addr × Obj)}{σ:St}{H:Hp}{s:d7}
theorem IA.obj {a:Addr}{u v:List Int} (I:E6 X pins σ H s) (h:IA H a u v):∃(o:Obj) (f g:b9) (tl:List b9) (n:Nat),s.heap.get? a=some o/\o.cls=.type "tuple"/\o.data=.seq (f::g::tl).toArray n/\S9 s.heap f u/\S9 s.heap g v:=by
 obtain ⟨c,d,tl,h1,h2,h3⟩:=h
 obtain ⟨_,vs,r,o,ho,hc,n,hd⟩:=(show P5 X.prog X.w H s.heap a _ from I.hok a _ h1)
 cases r with
 | cons r1 rr =>
  cases rr with
  | cons r2 rr =>
   cases r1
   cases r2
   exact ⟨o,_,_,_,n,ho,hc,hd,rZ I.hok h2,rZ I.hok h3⟩
theorem Iz.key {as:List Addr}{n:Nat}{ku kv:Addr->List Int} (T:Iz H as n ku kv) {x y:Addr} (hx:x∈as) (hy:y∈as) (e:ku x++kv x=ku y++kv y):x=y:=by
 obtain ⟨i,hi,ex⟩:=List.mem_iff_getElem.mp hx
 obtain ⟨j,hj,ey⟩:=List.mem_iff_getElem.mp hy
 have:i=j:=(FQ (h₀:=by rw[d6];exact hi) (h₁:=by rw[d6];exact hj) T.nd).mp (by rw[FP,FP,ex,ey];exact e)
 subst this
 rw[<- ex,<- ey]
theorem vo {v:b9}{as:List Addr}{n:Nat}{ku kv:Addr->List Int}{Q:VK} (I:E6 X pins σ H s) (hu:X.A.units+64<bj) (h128:as.length<128) (T:Iz H as n ku kv)
  (hcol:∀R:List b9->d7->Prop,(∀h' tk,s.heap.objs.size<h'.objs.size->(∀b o,s.heap.get? b=some o->h'.get? b=some o)->R (as.map y6) { s with heap:=h',toks:=tk })->m6 (t8 X.prog X.w) X.A.in1 (Lv v) R X.xe s)
  (q:∀(D:Addr) (as':List Addr) (H':Hp),as'.Perm as->as'.Pairwise (fun a b=>P4 (ku b++kv b) (ku a++kv a)=false)->i7 H H'->H D=none->H' D=some (.lst (as'.map V.ref))->Q (.ref D) H'):
  m6 (t8 X.prog X.w) X.A (call (.builtin "sorted") [v]) (EP X pins σ Q) X.xe s:=by
 refine Av (key:=fun a=>ku a++kv a) I hu h128 hcol (fun a ha=>?_) (fun {A' E' s1 R x y} hu' k hx hy hR=>?_) q
 ·obtain ⟨o,f,g,tl,n,e1,e2,e3,e4,_⟩:=(T.at_ a ha).obj I
  exact ⟨o,f,g::tl,n,e1,e2,e3,_,e4⟩
 ·obtain ⟨o,f,g,tl,m,e1,_,e3,e4,e5⟩:=(T.at_ x hx).obj I
  obtain ⟨o',f',g',tl',m',e1',_,e3',e4',e5'⟩:=(T.at_ y hy).obj I
  have kp:∀{v:b9}{ns:List Int},S9 s.heap v ns->S9 s1.heap v ns:=fun h=>h.keep fun b o _ e=>k b o e
  exact EK (k _ _ e1) e3 (k _ _ e1') e3' (kp e4) (kp e5) (kp e4') (kp e5') ((T.len x hx).trans (T.len y hy).symm) (T.key hx hy) hu' hR
noncomputable def CK (K:m9):List V->Hp->VK->Prop:=fun xs H Q=>∃(p:Addr) (as:List Addr) (n:Nat) (ku kv:Addr->List Int),xs=[.ref p]/\eV K H p (as.map V.ref)/\as.length<128/\Iz H as n ku kv /\
 ∀(D:Addr) (as':List Addr) (H':Hp),as'.Perm as->as'.Pairwise (fun a b=>P4 (ku b++kv b) (ku a++kv a)=false)->i7 H H'->H D=none->H' D=some (.lst (as'.map V.ref))->Q (.ref D) H'
theorem qo (hu:X.A.units+64<bj):cx X (.builtin "sorted") (CK X.K):=by
 intro pins s σ H xs us Q I rr h
 obtain ⟨p,as,n,ku,kv,rfl,hp,h128,T,q⟩:=h
 cases rr with
 | cons r1 rr =>
  cases rr
  cases r1
  refine vo I hu h128 T (fun R hR=>?_) q
  obtain ⟨its,rv',hl,hz⟩:=I.list hp
  have e:=rL rv'
  subst e
  refine collect_list hl.isList (hR _ s.toks ?_ fun b o e=>?_) (by rw[d6,aP];lia)
  ·rw[Heap.size_update,size_push'];exact bG _
  ·have hlt:=j7 e
   rw[Heap.get?_update_ne _ _ _ _ (v8 hlt),Heap.get?_push_ne _ _ _ (v8 hlt)]
   exact e
noncomputable def HH (P:j6) (w:r9):List V->Hp->VK->Prop:=fun xs H Q=>∃(d:Addr) (ps:PX) (n:Nat) (ku kv:Addr->List Int),xs=[.ref d]/\H d=some (N6 P w d ps)/\ps.length<128/\Iz H (ps.map (·.2.1)) n ku kv /\
 ∀(D:Addr) (as':List Addr) (H':Hp),as'.Perm (ps.map (·.2.1))->as'.Pairwise (fun a b=>P4 (ku b++kv b) (ku a++kv a)=false)->i7 H H'->H D=none->H' D=some (.lst (as'.map V.ref))->Q (.ref D) H'
theorem yJ (hc:X.calm=true) (hu:X.A.units+64<bj):cx X (.builtin "sorted") (HH X.prog X.w):=by
 intro pins s σ H xs us Q I rr h
 obtain ⟨d,ps,n,ku,kv,rfl,hd,h128,T,q⟩:=h
 cases rr with
 | cons r1 rr =>
  cases rr
  cases r1
  obtain ⟨⟨_,hsys,o,es,ep,ho,hex,hdat,hes,_⟩,_,_⟩:=(show P5 X.prog X.w H s.heap d (N6 X.prog X.w d ps) from I.hok d _ hd)
  refine vo I hu (by rw[d6];exact h128) T (fun R hR=>?_) q
  refine rm (A:=X.A.in1) (I.ok.hd hc) hsys ho hex.1 hdat ?_ fun h' tk hz k=>?_
  ·rw[<- G2,hes,d6,pJ,aP];lia
  ·have e:es.toList.map qT=(ps.map (·.2.1)).map y6:=by
    rw[hes]
    unfold jJ
    rw[R4,R4,R4];rfl
   rw[e]
   exact hR h' tk hz k
end
end L2
namespace M8
open PySem PySem.Spec L2 Mt Md Mq HP
noncomputable def jT (rs:List (List Int)) (u v:List Int):Nat->List (Int × List Int)
 | 0=>[]
 | i+1=>jT rs u v i++(if 0<u.getD i 0 then [(u.getD i 0,U3 v (rs.getD i [])++u)] else [])
noncomputable def S8 (n:Nat) (rs:List (List Int)):F7->F7->F7
 | [],D=>D
 | p::T,D=>S8 n rs T (Q6 p.2 (p.1.take n).sum (jT rs (p.1.take n) (p.1.drop n) n) D)
noncomputable def mf (n:Nat) (rs:List (List Int)):Nat->F7->F7
 | 0,T=>T
 | k+1,T=>S8 n rs (mf n rs k T) []
theorem nP (n:Nat) (rs:List (List Int)) (p:List Int × Rat):∀(T D:F7),S8 n rs (T++[p]) D=Q6 p.2 (p.1.take n).sum (jT rs (p.1.take n) (p.1.drop n) n) (S8 n rs T D)
 | [],D=>rfl
 | q::T,D=>nP n rs p T _
structure Uu (n m:Nat) (k:List Int):Prop where
 one:aq n m (k.take n)
 two:aq n m (k.drop n)
noncomputable def KU (n m:Nat) (T:F7):Prop:=∀p∈T,Uu n m p.1
variable {n:Nat}{u v:List Int}
theorem W9 (h:u.length=n):(u++v).take n=u/\(u++v).drop n=v:=by
 subst h
 exact ⟨List.take_left,List.drop_left⟩
variable {m:Nat}
theorem Uu.of (hu:aq n m u) (hv:aq n m v):Uu n m (u++v):=by
 obtain ⟨e1,e2⟩:=W9 (v:=v) hu.len
 exact ⟨by rw[e1];exact hu,by rw[e2];exact hv⟩
theorem aq.up {m':Nat}(h:aq n m u) (l:m<=m'):aq n m' u:=⟨h.len,fun x hx=>⟨(h.nn x hx).1,by have:=(h.nn x hx).2;lia⟩,h.pos⟩
theorem oA {n m:Nat}{rs:List (List Int)}{u v:List Int} (hR:lU n 5 rs) (hu:aq n m u) (hv:aq n m v):∀{i:Nat},i<=n->∀b∈jT rs u v i,(0<b.1/\b.1<=u.sum)/\Uu n (m+5) b.2/\∃j,j<n/\b=(u.getD j 0,U3 v (rs.getD j [])++u)
 | 0,_,b,hb=>by simp[jT] at hb
 | i+1,hi,b,hb=>by
  unfold jT at hb
  rcases List.mem_append.mp hb with hb|hb
  ·exact oA hR hu hv (by lia) b hb
  ·split at hb
   ·rename_i hp
    rw[List.mem_singleton.mp hb]
    exact ⟨⟨hp,aL hu i⟩,Uu.of (hv.add (hR.at (by lia))) (aq.up hu (by lia)),i,by lia,rfl⟩
   ·simp at hb
theorem uq (rs:List (List Int)) (u v:List Int):∀i:Nat,(jT rs u v i).length<=i
 | 0=>i8 _
 | i+1=>by
  unfold jT
  rw[v9]
  have:=uq rs u v i
  split
  ·rw[jP];lia
  ·rw[S5];lia
theorem jf {W:List Int->Prop}{N E:Nat}{x:Rat}{s:Int} (hx:Vq N E x) (hs:0<s) (hs2:s<=200):∀(bs:List (Int × List Int)) {D:F7}{B:Nat},(∀b∈bs,(0<b.1/\b.1<=s)/\W b.2)->(∀p∈D,W p.1)->fq D->bU (N*LL) B D ->
  (∀p∈Q6 x s bs D,W p.1)/\fq (Q6 x s bs D)/\bU (N*LL) (B+E*bs.length) (Q6 x s bs D)/\(Q6 x s bs D).length<=D.length+bs.length
 | [],D,B,_,h1,h2,h3=>⟨h1,h2,h3,by unfold Q6;simp⟩
 | b::bs,D,B,h,h1,h2,h3=>by
  unfold Q6
  have hb:=h b (.head _)
  have hv:Vq (N*LL) E (x*cut b.1 s):=(hx.mul (uA (by lia) hb.1.2 hs hs2)).mono (by lia)
  obtain ⟨a1,a2,a3,a4⟩:=jf hx hs hs2 bs (D:=bw D b.2 (x*cut b.1 s)) (fun c hc=>h c (.tail _ hc)) (fun p hp=>by
   rcases gn hp with e|⟨q,hq,e⟩
   ·rw[e];exact hb.2
   ·rw[<- e];exact h1 q hq) (zD h2) (h3.add hv)
  have:=wc b.2 (x*cut b.1 s) D
  exact ⟨a1,a2,a3.mono (by rw[A8,V5];lia),by rw[A8];lia⟩
theorem mS {n m N E:Nat}{rs:List (List Int)} (hR:lU n 5 rs) (n4:n<=4) (hm:m<=50):∀(T:F7) {D:F7}{B:Nat},KU n m T->bU N E T->KU n (m+5) D->fq D->bU (N*LL) B D ->
  KU n (m+5) (S8 n rs T D)/\fq (S8 n rs T D)/\bU (N*LL) (B+E*(4*T.length)) (S8 n rs T D)/\(S8 n rs T D).length<=D.length+n*T.length
 | [],D,B,_,_,h1,h2,h3=>⟨h1,h2,h3,by unfold S8;simp⟩
 | p::T,D,B,h,hE,h1,h2,h3=>by
  unfold S8
  have hp:=h p (.head _)
  obtain ⟨b1,b2,b3,b4⟩:=jf (W:=Uu n (m+5)) (hE p (.head _)) hp.one.pos (lh hp.one n4 hm) (jT rs (p.1.take n) (p.1.drop n) n) (fun b hb=>have z:=oA hR hp.one hp.two (i8 n) b hb;⟨z.1,z.2.1⟩) h1 h2 h3
  obtain ⟨a1,a2,a3,a4⟩:=mS hR n4 hm T (fun q hq=>h q (.tail _ hq)) (fun q hq=>hE q (.tail _ hq)) b1 b2 b3
  have e:=uq rs (p.1.take n) (p.1.drop n) n
  refine ⟨a1,a2,a3.mono ?_,?_⟩
  ·have:E*(jT rs (p.1.take n) (p.1.drop n) n).length<=E*4:=L6 _ (by lia)
   rw[A8,V5 4,V5 E];lia
  ·rw[A8,V5,rB];lia
theorem qm {n:Nat}{rs:List (List Int)}{u v:List Int} (hR:lU n 5 rs) (n4:n<=4) (hu:aq n 20 u) (hv:aq n 20 v):∀k:Nat,k<=6->KU n (20+5*k) (mf n rs k [(u++v,1)])/\fq (mf n rs k [(u++v,1)])/\bU (LL ^ k) (4 ^ (k*k)) (mf n rs k [(u++v,1)])/\(mf n rs k [(u++v,1)]).length<=4 ^ k
 | 0,_=>⟨fun p hp=>by rw[List.mem_singleton.mp hp];exact Uu.of hu hv,by unfold mf fq;simp,fun p hp=>by rw[List.mem_singleton.mp hp];exact Vq.one _,by show 1<=1;lia⟩
 | k+1,hk=>by
  obtain ⟨a1,a2,a3,a4⟩:=qm hR n4 hu hv k (by lia)
  obtain ⟨b1,b2,b3,b4⟩:=mS (D:=[]) (B:=0) hR n4 (by lia) _ a1 a3 (fun p hp=>by simp at hp) (by unfold fq;simp) (fun p hp=>by simp at hp)
  rw[U7] at b3
  rw[S5,U7] at b4
  refine ⟨by rw[show 20+5*(k+1)=20+5*k+5 by lia];exact b1,b2,?_,?_⟩
  ·rw[Am LL]
   refine b3.mono ?_
   have h1:4*(mf n rs k [(u++v,1)]).length<=4 ^ (k+1):=by rw[Am];lia
   refine n6 (L6 _ h1) ?_
   rw[<- K7]
   refine C6 (by decide) ?_
   have:(k+1)*(k+1)=k*k+k+k+1:=by rw[Nat.add_mul,V5];lia
   lia
  ·show (S8 n rs _ []).length<=4 ^ (k+1)
   have:n*(mf n rs k [(u++v,1)]).length<=4*4 ^ k:=C7 n4 a4
   rw[Am];lia
theorem nQ {n:Nat}{rs:List (List Int)}:∀{T D:F7}{p:List Int × Rat},p∈S8 n rs T D->(∃q∈T,∃b∈jT rs (q.1.take n) (q.1.drop n) n,p.1=b.2) ∨ ∃q∈D,q.1=p.1
 | [],D,p,h=>.inr ⟨p,h,rfl⟩
 | t::T,D,p,h=>by
  unfold S8 at h
  rcases nQ h with ⟨q,hq,b,hb,e⟩|⟨q,hq,e⟩
  ·exact .inl ⟨q,.tail _ hq,b,hb,e⟩
  ·rcases ij hq with ⟨b,hb,e2⟩|⟨r,hr,e2⟩
   ·exact .inl ⟨t,.head _,b,hb,by rw[<- e,e2]⟩
   ·exact .inr ⟨r,hr,by rw[e2,e]⟩
noncomputable def K2 (n:Nat) (rs:List (List Int)) (U V:List Int) (a b:Nat) (k:List Int):Prop:=∃c∈uE n a,∃d∈uE n b,k=uU U rs c++uU V rs d
variable {rs:List (List Int)}
theorem Iw {U:List Int}(c:List Int) (h:U.length=n):(uU U rs c).length=n:=by
 unfold uU
 rw[d6,EF,h]
theorem vY {rs:List (List Int)}{u v:List Int}:∀{i:Nat},∀b∈jT rs u v i,∃j,j<i/\b=(u.getD j 0,U3 v (rs.getD j [])++u)
 | 0,b,hb=>by simp[jT] at hb
 | i+1,b,hb=>by
  unfold jT at hb
  rcases List.mem_append.mp hb with hb|hb
  ·obtain ⟨j,h1,h2⟩:=vY b hb
   exact ⟨j,by lia,h2⟩
  ·split at hb
   ·exact ⟨i,by lia,List.mem_singleton.mp hb⟩
   ·simp at hb
variable {T:F7}
theorem K2.step {a b:Nat}{U V:List Int}(hR:lU n 5 rs) (hU:U.length=n) (hV:V.length=n) (h:∀p∈T,K2 n rs U V a b p.1):∀p∈S8 n rs T [],K2 n rs V U (b+1) a p.1:=fun p hp=>by
 rcases nQ hp with ⟨q,hq,x,hx,e⟩|⟨q,hq,_⟩
 ·obtain ⟨c,hc,d,hd,ek⟩:=h q hq
  obtain ⟨e1,e2⟩:=W9 (v:=uU V rs d) (Iw (rs:=rs) c hU)
  rw[ek,e1,e2] at hx
  obtain ⟨j,hj,rfl⟩:=vY x hx
  refine ⟨Jj d j,Dw (List.mem_flatMap.mpr ⟨d,hd,List.mem_map.mpr ⟨j,List.mem_range.mpr hj,rfl⟩⟩),c,hc,?_⟩
  rw[e,FC hV (wB hd) hR hj]
 ·simp at hq
theorem Ip (hR:lU n 5 rs) (hu:u.length=n) (hv:v.length=n):∀{k:Nat},k<=4->∃U V a b,a<=2/\b<=2/\∀p∈mf n rs k [(u++v,1)],K2 n rs U V a b p.1:=by
 have h0:∀p∈mf n rs 0 [(u++v,1)],K2 n rs u v 0 0 p.1:=fun p hp=>by
  rw[List.mem_singleton.mp hp]
  exact ⟨_,List.mem_singleton.mpr rfl,_,List.mem_singleton.mpr rfl,by rw[wI,wI]⟩
 have h1:=K2.step hR hu hv h0
 have h2:=K2.step hR hv hu h1
 have h3:=K2.step hR hu hv h2
 have h4:=K2.step hR hv hu h3
 intro k hk
 have e:k=0 ∨ k=1 ∨ k=2 ∨ k=3 ∨ k=4:=by lia
 rcases e with rfl|rfl|rfl|rfl|rfl
 ·exact ⟨_,_,_,_,by decide,by decide,h0⟩
 ·exact ⟨_,_,_,_,by decide,by decide,h1⟩
 ·exact ⟨_,_,_,_,by decide,by decide,h2⟩
 ·exact ⟨_,_,_,_,by decide,by decide,h3⟩
 ·exact ⟨_,_,_,_,by decide,by decide,h4⟩
theorem zU {k:Nat}(hR:lU n 5 rs) (n1:1<=n) (n4:n<=4) (hu:aq n 20 u) (hv:aq n 20 v) (hk:k<=4):(mf n rs k [(u++v,1)]).length<128:=by
 have h2:=(qm hR n4 hu hv k (by lia)).2.1
 unfold fq at h2
 obtain ⟨U,V,a,b,ha,hb,h⟩:=Ip (u:=u) (v:=v) hR hu.len hv.len hk
 have l:=Ds (m:=(uE n a).flatMap fun c=>(uE n b).map fun d=>uU U rs c++uU V rs d) h2 fun z hz=>by
  obtain ⟨p,hp,e⟩:=List.mem_map.mp hz
  obtain ⟨c,hc,d,hd,e2⟩:=h p hp
  exact List.mem_flatMap.mpr ⟨c,hc,List.mem_map.mpr ⟨d,hd,by rw[<- e,e2]⟩⟩
 have ln:∀(A B:List (List Int)),(A.flatMap fun c=>B.map fun d=>uU U rs c++uU V rs d).length=A.length*B.length:=fun A B=>by
  induction A with
  | nil=>simp
  | cons x A ih=>rw[List.flatMap_cons,v9,d6,ih,A8,Nat.add_mul];lia
 have key:∀n∈[1,2,3,4],∀k∈[0,1,2],(uE n k).length<=10:=by decide +kernel
 have c1:(uE n a).length<=10:=key n (by simp;lia) a (by simp;lia)
 have c2:(uE n b).length<=10:=key n (by simp;lia) b (by simp;lia)
 rw[d6,ln] at l
 have:=C7 c1 c2
 lia
noncomputable def kP (n:Nat) (k:List Int):KP:=(kI (k.take n),kI (k.drop n))
theorem qh {a b:List Int} (h:kP n a=kP n b):a=b:=by
 have h1:=yx (congrArg Prod.fst h)
 have h2:=yx (congrArg Prod.snd h)
 rw[<- D1 n a,<- D1 n b,h1,h2]
noncomputable def QP (n:Nat) (H:Hp):F7->PX->Prop:=ee fun p x=>x.1=kP n p.1/\xg H x.1 x.2.1/\H x.2.2=some (.tup ((fr p.2).map V.int))
variable {H H':Hp}{xs:PX}
theorem QP.mono (h:QP n H T xs) (t:∀a ys,H a=some (.tup ys)->H' a=some (.tup ys)):QP n H' T xs :=
 Paired.mapP h fun p x r=>⟨r.1,r.2.1.keep t,t _ _ r.2.2⟩
theorem QP.len (h:QP n H T xs):T.length=xs.length:=U0 h
theorem QP.pks (h:QP n H T xs):Jl H xs:=by
 induction h with
 | nil=>exact fun _ z=>nomatch z
 | cons r _ ih =>
  intro x hx
  rcases List.mem_cons.mp hx with e|hx
  ·rw[e];exact r.2.1
  ·exact ih x hx
variable {k:List Int}
theorem QP.val {z:V} (hz:rn H 0 z) (h:QP n H T xs):rn H (iM T k) ((zY xs (kP n k)).elim z V.ref):=by
 induction h with
 | nil=>exact hz
 | @cons p x T xs r t ih =>
  unfold iM zY
  rw[rC]
  by_cases e:p.1=k
  ·rw[if_pos e,decide_eq_true (by rw[r.1,e])]
   exact ⟨_,rfl,r.2.2⟩
  ·rw[if_neg e,decide_eq_false (fun q=>e (qh (r.1.symm.trans q)))]
   exact ih
theorem QP.any (h:QP n H T xs):(zY xs (kP n k)).isSome=decide (k∈T.map (·.1)):=by
 induction h with
 | nil=>simp[zY]
 | @cons p x T xs r t ih =>
  unfold zY at ih ⊢
  rw[rC]
  by_cases e:p.1=k
  ·rw[decide_eq_true (show x.1=kP n k by rw[r.1,e])]
   simp[e]
  ·rw[decide_eq_false (fun q=>e (qh (r.1.symm.trans q)))]
   rw[ih]
   have e':¬ k=p.1:=fun z=>e z.symm
   simp[e']
variable {q:Addr}
theorem QP.keep (h:QP n H T xs) (hn:¬ k∈T.map (·.1)):xs.map (tH (kP n k) q)=xs:=by
 induction h with
 | nil=>rfl
 | @cons p x T xs r t ih =>
  rw[B7,B6,not_or] at hn
  rw[B7,ih hn.2]
  unfold tH
  rw[if_neg fun z=>hn.1 (qh (r.1.symm.trans z)).symm]
theorem QP.snoc {x:Rat}{b:Addr} (hb:xg H (kP n k) b) (hq:H q=some (.tup ((fr x).map V.int))) (h:QP n H T xs):QP n H (T++[(k,x)]) (xs++[(kP n k,b,q)]):=by
 induction h with
 | nil=>exact .cons ⟨rfl,hb,hq⟩ .nil
 | cons r _ ih=>exact .cons r ih
theorem QP.put {x:Rat}{b:Addr} (hb:xg H (kP n k) b) (h:QP n H T xs) (hn:fq T) (hq:H q=some (.tup ((fr (iM T k+x)).map V.int))):QP n H (bw T k x) (xR xs (kP n k) b q):=by
 unfold xR
 rw[h.any]
 by_cases hk:k∈T.map (·.1)
 ·rw[decide_eq_true hk,if_pos rfl]
  induction h with
  | nil=>simp at hk
  | @cons p y T xs r t ih =>
   unfold fq at hn
   rw[B7,S4] at hn
   unfold bw
   unfold iM at hq
   rw[B7]
   by_cases e:p.1=k
   ·rw[if_pos e]
    rw[if_pos e] at hq
    rw[QP.keep t (by rw[<- e];exact hn.1)]
    refine .cons ?_ t
    unfold tH
    rw[if_pos (by rw[r.1,e])]
    exact ⟨r.1,r.2.1,hq⟩
   ·rw[if_neg e]
    rw[if_neg e] at hq
    rw[B7,B6] at hk
    refine .cons ?_ (ih hn.2 hq (hk.resolve_left fun z=>e z.symm))
    unfold tH
    rw[if_neg fun z=>e (qh (r.1.symm.trans z))]
    exact r
 ·rw[decide_eq_false hk,if_neg (by decide),Aa T hk]
  rw[tj T hk,LX] at hq
  exact h.snoc hb hq
noncomputable def zk (H:Hp) (c:Addr):List Int:=match H c with
 | some (.tup xs)=>xs.map fun v=>match v with | .int i=>i|_=>0
 | _=>[]
theorem vI {c:Addr}(h:H c=some (.tup (u.map V.int))):zk H c=u:=by
 unfold zk
 rw[h]
 show (u.map V.int).map _=u
 rw[R4]
 exact Lz u
noncomputable def BA (H:Hp) (a:Addr):List Int:=match H a with
 | some (.tup (.ref c::_))=>zk H c
 | _=>[]
noncomputable def Bz (H:Hp) (a:Addr):List Int:=match H a with
 | some (.tup (_::.ref d::_))=>zk H d
 | _=>[]
theorem rV {a c d:Addr}{tl:List V}(h:H a=some (.tup (.ref c::.ref d::tl))) (h1:H c=some (.tup (u.map V.int))) (h2:H d=some (.tup (v.map V.int))):BA H a=u/\Bz H a=v:=by
 unfold BA Bz
 rw[h]
 exact ⟨vI h1,vI h2⟩
noncomputable def R3 (n:Nat) (H:Hp):F7->List Addr->Prop:=ee fun p a=>∃c d q,H a=some (.tup [.ref c,.ref d,.ref q])/\H c=some (.tup ((p.1.take n).map V.int))/\H d=some (.tup ((p.1.drop n).map V.int))/\H q=some (.tup ((fr p.2).map V.int))
variable {as:List Addr}
theorem R3.mono (h:R3 n H T as) (t:∀a ys,H a=some (.tup ys)->H' a=some (.tup ys)):R3 n H' T as :=
 Paired.mapP h fun p x ⟨c,d,q,h1,h2,h3,h4⟩=>⟨c,d,q,t _ _ h1,t _ _ h2,t _ _ h3,t _ _ h4⟩
theorem bO {α β:Type}{F:α->β->Prop}{a:α}{b:β} (r:F a b):∀{l:List α}{m:List β},ee F l m->ee F (l++[a]) (m++[b])
 | _,_,.nil=>.cons r .nil
 | _,_,.cons r' t=>.cons r' (bO r t)
theorem nM {α β:Type}{F:α->β->Prop}{l:List α}{m m':List β} (h:ee F l m) (p:m'.Perm m):∃l',l'.Perm l/\ee F l' m':=by
 induction p generalizing l with
 | nil=>exact ⟨l,.refl _,h⟩
 | cons x _ ih =>
  cases h with
  | cons r t =>
   obtain ⟨l',p',h'⟩:=ih t
   exact ⟨_,p'.cons _,.cons r h'⟩
 | swap x y m =>
  cases h with
  | cons r t =>
   cases t with
   | cons r' t=>exact ⟨_,.swap _ _ _,.cons r' (.cons r t)⟩
 | trans _ _ ih1 ih2 =>
  obtain ⟨l1,p1,h1⟩:=ih2 h
  obtain ⟨l2,p2,h2⟩:=ih1 h1
  exact ⟨l2,p2.trans p1,h2⟩
theorem R3.keys (h:R3 n H T as):(as.map fun a=>BA H a++Bz H a)=T.map (·.1):=by
 induction h with
 | nil=>rfl
 | @cons p a T as r t ih =>
  obtain ⟨c,d,q,h1,h2,h3,_⟩:=r
  obtain ⟨e1,e2⟩:=rV h1 h2 h3
  rw[B7,B7,ih,e1,e2,D1]
theorem R3.trs (h:R3 n H T as) (hk:KU n m T) (hn:fq T):Iz H as n (BA H) (Bz H):=by
 have key:∀a∈as,∃p∈T,∃c d q,H a=some (.tup [.ref c,.ref d,.ref q])/\H c=some (.tup ((p.1.take n).map V.int))/\H d=some (.tup ((p.1.drop n).map V.int))/\H q=some (.tup ((fr p.2).map V.int)):=by
  clear hk hn
  induction h with
  | nil=>exact fun _ z=>nomatch z
  | @cons p a T as r t ih =>
   intro x hx
   rcases List.mem_cons.mp hx with e|hx
   ·rw[e];exact ⟨p,.head _,r⟩
   ·obtain ⟨p',hp',r'⟩:=ih x hx
    exact ⟨p',.tail _ hp',r'⟩
 refine ⟨fun a ha=>?_,fun a ha=>?_,by rw[h.keys];exact hn⟩
 ·obtain ⟨p,_,c,d,q,h1,h2,h3,_⟩:=key a ha
  obtain ⟨e1,e2⟩:=rV h1 h2 h3
  rw[e1,e2]
  exact ⟨c,d,_,h1,h2,h3⟩
 ·obtain ⟨p,hp,c,d,q,h1,h2,h3,_⟩:=key a ha
  obtain ⟨e1,e2⟩:=rV h1 h2 h3
  rw[e1]
  exact (hk p hp).one.len
theorem R3.sorted {as':List Addr} (h:R3 n H T as) (p:as'.Perm as) (o:as'.Pairwise (fun a b=>HT.P4 (BA H b++Bz H b) (BA H a++Bz H a)=false)) (g:i7 H H'):∃T':F7,T'.Perm T/\qu T'/\R3 n H' T' as':=by
 obtain ⟨T',pT,h'⟩:=nM h p
 refine ⟨T',pT,?_,R3.mono h' fun a ys e=>g _ _ e⟩
 unfold qu
 rw[<- R3.keys h',gR]
 exact o
noncomputable def uS (n:Nat) (T:F7):F7:=T.map fun p=>(p.1.drop n++p.1.take n,p.2)
noncomputable def tw (n:Nat) (rs:List (List Int)) (k:Nat) (u v:List Int):F7:=if k % 2=1 then uS n (mf n rs k [(u++v,1)]) else mf n rs k [(u++v,1)]
theorem Cg (h:KU n m T):KU n m (uS n T):=fun p hp=>by
 obtain ⟨q,hq,rfl⟩:=List.mem_map.mp hp
 exact Uu.of (h q hq).two (h q hq).one
theorem Cf (h:KU n m T) (hn:fq T):fq (uS n T):=by
 unfold fq uS at *
 rw[R4]
 have:(T.map (·.1)).map (fun k=>k.drop n++k.take n)=T.map ((fun x:List Int × Rat=>x.1) ∘ fun p=>(p.1.drop n++p.1.take n,p.2)):=by rw[R4];rfl
 rw[<- this]
 refine List.pairwise_map.mpr (eZ (fun {a b} ha hb hab e=>?_) hn)
 obtain ⟨p,hp,rfl⟩:=List.mem_map.mp ha
 obtain ⟨q,hq,rfl⟩:=List.mem_map.mp hb
 have l1:=(h p hp).two.len
 have l2:=(h q hq).two.len
 have e1:=congrArg (aJ n) e
 have e2:=congrArg (aK n) e
 rw[(W9 l1).1,(W9 l2).1] at e1
 rw[(W9 l1).2,(W9 l2).2] at e2
 exact hab (by rw[<- D1 n p.1,<- D1 n q.1,e1,e2])
end M8
namespace L2
open PySem PySem.Spec PyProof.Rows HP
theorem Jk {A:A5}{k:Nat} (hr:cE k A):A.units+2<bj:=F2 (Nat.add_le_add_left (by decide:2<=64) _) hr.units
variable {P:j6}{w:r9}{H:Hp}
theorem yE {d:Addr}{o:Obj}{xs:PX}{g:TG}{tb:TS}{D:ju}{σ:St}(Pv:Nat->St->Hp->Prop) (h0:Pv 0 σ H) (hl:∀i σ H,i<=xs.length->Pv i σ H->H d=some (.frz o (N6 P w d xs)))
  (hs:∀i x σ H p,xs[i]?=some x->H p=none->Pv i σ H->g (.ref p) σ (n5 H p (.tup [.ref x.2.1,.ref x.2.2])) fun σ2 H2=>tb { D with nx:=Pv (i+1),ct:=Pv (i+1),bk:=D.nx } σ2 H2) (hd:∀σ H,Pv xs.length σ H->D.nx σ H):
  ∃W:Nat->Nat->St->Hp->Prop,(∃m,W 0 m σ H)/\∀i m σ H,W i m σ H ->
   ((IK P w d o xs).stop i H/\D.nx σ H) ∨ ((IK P w d o xs).go i H/\∃N:St->Hp->Prop,(∀σ' H',N σ' H'->∃m',m'<m/\W (i+1) m' σ' H')/\∀x H',(IK P w d o xs).yld i H x H'->g x σ H' fun σ2 H2=>tb { D with nx:=N,ct:=N,bk:=D.nx } σ2 H2):=by
 refine ⟨fun i m σ H=>m=xs.length - i/\i<=xs.length/\Pv i σ H,⟨xs.length,by simp,u9 _,h0⟩,?_⟩
 rintro i m σ H ⟨rfl,hi,p⟩
 have q:=hl i σ H hi p
 rcases Ma i xs.length with h|h
 ·refine .inr ⟨⟨q,h⟩,Pv (i+1),fun σ' H' p'=>⟨_,by lia,rfl,by lia,p'⟩,fun x H' y=>?_⟩
  obtain ⟨pp,z,hp,rfl,rfl,hx⟩:=y
  exact hs i z σ H pp hx hp p
 ·have e:i=xs.length:=by lia
  subst e
  exact .inl ⟨⟨q,i8 _⟩,hd σ H p⟩
theorem AZ {K:m9}{a:Addr}{xs:List V}{g:TG}{tb:TS}{D:ju}{σ:St}(Pv:Nat->St->Hp->Prop) (h0:Pv 0 σ H) (hl:∀i σ H,i<=xs.length->Pv i σ H->dH K H a xs)
  (hs:∀i x σ H p,xs[i]?=some x->H p=none->Pv i σ H->g (.ref p) σ (n5 H p (.tup [.int i,x])) fun σ2 H2=>tb { D with nx:=Pv (i+1),ct:=Pv (i+1),bk:=D.nx } σ2 H2) (hd:∀σ H,Pv xs.length σ H->D.nx σ H):
  ∃W:Nat->Nat->St->Hp->Prop,(∃m,W 0 m σ H)/\∀i m σ H,W i m σ H ->
   ((Jo K a).stop i H/\D.nx σ H) ∨ ((Jo K a).go i H/\∃N:St->Hp->Prop,(∀σ' H',N σ' H'->∃m',m'<m/\W (i+1) m' σ' H')/\∀x H',(Jo K a).yld i H x H'->g x σ H' fun σ2 H2=>tb { D with nx:=N,ct:=N,bk:=D.nx } σ2 H2):=by
 refine ⟨fun i m σ H=>m=xs.length - i/\i<=xs.length/\Pv i σ H,⟨xs.length,by simp,u9 _,h0⟩,?_⟩
 rintro i m σ H ⟨rfl,hi,p⟩
 have q:=hl i σ H hi p
 rcases Ma i xs.length with h|h
 ·refine .inr ⟨⟨xs,xs[i],q,by simp[h]⟩,Pv (i+1),fun σ' H' p'=>⟨_,by lia,rfl,by lia,p'⟩,fun x H' y=>?_⟩
  obtain ⟨pp,z,hp,rfl,rfl,hx⟩:=y
  exact hs i z σ H pp (hx xs q) hp p
 ·have e:i=xs.length:=by lia
  subst e
  exact .inl ⟨⟨xs,q,i8 _⟩,hd σ H p⟩
theorem yL {K:m9}{d:Addr}{o:Obj}{xs:PX}{σ0:St}{te:TE}{F:List V->Hp->Prop} (hn:xs.length<=i6) (Pv:Nat->List V->Hp->Prop) (h0:Pv 0 [] H) (hl:∀i ys H,Pv i ys H->ys.length<=i)
  (hq:∀i ys H,i<=xs.length->Pv i ys H->H d=some (.frz o (N6 P w d xs))/\Jl H xs) (hσ:σ0[0]?=some none/\σ0[1]?=some none/\σ0[2]?=some none)
  (hs:∀i ys H x c e p,xs[i]?=some x->H p=none->H x.2.1=some (.tup [.ref c,.ref e])->H c=some (.tup (x.1.1.map kV))->H e=some (.tup (x.1.2.map kV))->Pv i ys H->te (((σ0.set 0 (some (.ref c))).set 1 (some (.ref e))).set 2 (some (.ref x.2.2))) (n5 H p (.tup [.ref x.2.1,.ref x.2.2])) (fun z H'=>Pv (i+1) (ys++[z]) H'))
  (hd:∀ys H,Pv xs.length ys H->F ys H):Bn (IK P w d o xs) σ0 (qi K 2 (bP (qi K 2 (bP (V7 0) (bP (V7 1) rj))) (bP (V7 2) rj))) S1 te H F:=by
 refine ⟨fun i m ys H=>m=xs.length - i/\i<=xs.length/\Pv i ys H,⟨xs.length,by simp,u9 _,h0⟩,?_⟩
 rintro i m ys H2 ⟨rfl,hi,p⟩
 obtain ⟨q,qk⟩:=hq i ys H2 hi p
 have hlen:=hl i ys H2 p
 refine ⟨by lia,?_⟩
 by_cases hlt:i<xs.length
 ·refine .inr ⟨⟨q,hlt⟩,fun y H'=>Pv (i+1) (ys++[y]) H',fun H'=>False,fun y H' q=>⟨xs.length - (i+1),by lia,rfl,hlt,q⟩,fun H' q=>q.elim,fun v H3 yld=>?_⟩
  obtain ⟨r,x,hr,rfl,rfl,hx⟩:=yld
  obtain ⟨c,e,h1,h2,h3⟩:=qk x (C5 hx)
  exact ⟨r,[.ref x.2.1,.ref x.2.2],rfl,.of f7,rfl,.ref x.2.1,[.ref x.2.2],rfl,_,[.ref c,.ref e],rfl,.of (by rw[C0 (v5 h1 hr)];exact h1),rfl,_,_,rfl,_,_,rfl,rfl,_,_,rfl,rfl,wk3 hσ _ _ _,hs i ys _ x c e r hx hr h1 h2 h3 p⟩
 ·have e:i=xs.length:=by lia
  subst e
  exact .inl ⟨⟨q,i8 _⟩,hd ys H2 p⟩
theorem CT {X:Cx}{o e:Expr}{pos:Pos}{td ty:TE} (hP:X.prog=P) (hw:X.w=w) (hu:X.A.units+2<bj) (ho:PE X o td) (hi:PE X e ty) (hs:IH e):PE X (.Subscript o e pos) (FZ P w td ty):=by
 subst hP hw;exact EY hu ho hi hs
end L2
namespace G
open PySem PySem.Spec PyProof.Rows L2 Mt Md Mq M8 HP
structure CtW (mg:Str->Option b9):Prop where
 two:∃t,mg "MOST_TWO_DRAWS"=some (.int 4 t)
mutual
theorem uK {l T:Addr}{H:Hp}{φ:Heap->Prop} (hT:H T=some (.ext φ)):∀{d:B0}{v:V},Dt l H d v->Dt T H d v
 | .none,_,h=>by unfold Dt at h ⊢;exact h
 | .bool _,_,h=>by unfold Dt at h ⊢;exact h
 | .int _,_,h=>by unfold Dt at h ⊢;exact h
 | .str _,_,h=>by unfold Dt at h ⊢;exact h
 | .tuple ds,_,h=>by
  unfold Dt at h ⊢
  obtain ⟨a,xs,e,n,q,r⟩:=h
  exact ⟨a,xs,e,(fun z=>by rw[z,hT] at q;cases q),q,uI hT r⟩
 | .list ds,_,h=>by
  unfold Dt at h ⊢
  obtain ⟨a,xs,e,n,q,r⟩:=h
  exact ⟨a,xs,e,(fun z=>by rw[z,hT] at q;cases q),q,uI hT r⟩
 | .dict kvs,_,h=>by
  unfold Dt at h ⊢
  obtain ⟨z,a,e,n,q⟩:=h
  exact ⟨z,a,e,(fun z=>by rw[z,hT] at q;cases q),q⟩
theorem uI {l T:Addr}{H:Hp}{φ:Heap->Prop} (hT:H T=some (.ext φ)):∀{ds:List B0}{xs:List V},S3 l H ds xs->S3 T H ds xs
 | [],_,h=>by unfold S3 at h ⊢;exact h
 | d::ds,_,h=>by
  unfold S3 at h ⊢
  obtain ⟨x,r,e,q1,q2⟩:=h
  exact ⟨x,r,e,uK hT q1,uI hT q2⟩
end
theorem ip {l:Addr}{H H':Hp}{o:HO} (hl:H l=some o) (ho:∀xs,o≠.tup xs) (k:Kp l H H'):∀a xs,H a=some (.tup xs)->H' a=some (.tup xs):=fun a xs e=>k a _ (fun z=>by rw[z,hl] at e;injection e with e;exact ho _ e) e
theorem jr:X4 "sorted"=some (bR "sorted"):=by decide +kernel
section
variable {P:j6}{w:r9}{K:m9}{mg:Str->Option b9}{base:Heap}{f:Addr}{fd:D6}{ec:Nat->Addr}{Bs:Addr}
noncomputable def qy (d e r g:B0) (i:Nat):Prop:=(i=0/\(dB 20 d=false ∨ dB 20 e=false)) ∨ (i=8/\dB 20 d=true/\dB 20 e=true/\aE d≠aE e) ∨
 (i=1/\dB 20 d=true/\dB 20 e=true/\aE d=aE e/\fi (aE d) r=false) ∨ (i=5/\dB 20 d=true/\dB 20 e=true/\aE d=aE e/\fi (aE d) r=true/\S7 0 4 g=false)
noncomputable def Jm (d e r g:B0):Prop:=dB 20 d=true/\dB 20 e=true/\aE d=aE e/\fi (aE d) r=true/\S7 0 4 g=true
noncomputable def Co (ec:Nat->Addr):Sp:=fun vs H Q E=>∃(u v x y:V) (st:Addr) (d e r g:B0),vs=[u,v,x,y]/\Dt st H d u/\bN d/\Dt st H e v/\bN e/\Dt st H r x/\Bx r/\Dt st H g y /\
 (∀i,qy d e r g i->∀H',i7 H H'->E (.ref (ec i)) none H')/\(Jm d e r g->∀H',i7 H H'->Q .non H')
noncomputable abbrev GZ:Stmt:=fE 38
theorem JW:D9 ["one","other","rule","draws"] ["one","other","rule","draws"] (A1 GZ):=⟨rfl,rfl,rfl,by decide +kernel,rfl,by decide +kernel,by decide +kernel⟩
theorem Kz (F:bT K "need_two" "need_two" GZ f fd) (B:Bt mg) (C2:CtW mg) (R:yO K mg ec Bs) (c1:fU P w K mg base 5 "need_urn" ["thing"] (iX ec)) (c2:fU P w K mg base 4 "need_rule" ["kinds","thing"] (gW ec)) (c3:fU P w K mg base 2 "need_number" ["thing","low","high"] (cg ec)):N0 P w K mg base (kT P w) 6 f fd ["one","other","rule","draws"] (Co ec):=by
 refine F.okX JW (fun vs H Q E h=>?_) (fun cdv A outer s H vs Q E hr h=>?_)
 ·obtain ⟨u,v,x,y,st,d,e,r,g,rfl,_⟩:=h
  rfl
 obtain ⟨u,v,x,y,st,d,e,r,g,rfl,hu,hus,hv,hvs,hx,hxo,hy,qE,qQ⟩:=h
 obtain ⟨tw,hW⟩:=C2.two
 refine ⟨_,m7 (fI (cm c1 hr rfl fJ (b7 (pv 0) d8))) (m7 (fI (cm c1 hr rfl fJ (b7 (pv 1) d8)))
  (m7 (V6 (R7 jU (u5 D8 rfl B.len C8 (b7 (pv 0) d8)) (u5 D8 rfl B.len C8 (b7 (pv 1) d8)) (O8 _)) (t6 (jy R.e8 (R.xc 8 (by decide)) jh (fun σ H Q Q' m q=>m _ _ q))) K9)
  (m7 (fI (cm (c2.up (by decide)) hr rfl fJ (b7 (u5 D8 rfl B.len C8 (b7 (pv 0) d8)) (b7 (pv 2) d8))))
  (t6 (fI (cm (c3.up (by decide)) hr rfl fJ (b7 (pv 3) (b7 j0 (b7 (Z4 (v:=.int 4) rfl hW ⟨tw,rfl⟩) d8))))))))),?_⟩
 refine ⟨_,rfl,u,st,d,rfl,hu,hus,fun hw H1 g1=>?_,fun z=>qE 0 (.inl ⟨rfl,.inl z⟩)⟩
 refine ⟨_,rfl,v,st,e,rfl,hv.kp (g1.kp st),hvs,fun hw2 H2 g2=>?_,fun z H2 g2=>qE 0 (.inl ⟨rfl,.inr z⟩) H2 (g1.trans g2)⟩
 obtain ⟨ns,e1,l1,l4,_⟩:=eK hw
 subst e1
 obtain ⟨a,e2,_,ha⟩:=hu.di
 subst e2
 obtain ⟨ms,e3,m1,m4,_⟩:=eK hw2
 subst e3
 obtain ⟨b,e4,_,hb⟩:=hv.di
 subst e4
 have g12:=g1.trans g2
 unfold qy at qE
 unfold Jm at qQ
 rw[U5,U5] at qE qQ
 refine ⟨_,rfl,a,_,rfl,.inr (.of (g12 _ _ ha)),_,rfl,b,_,rfl,.inr (.of (g12 _ _ hb)),?_⟩
 rw[d6,d6]
 by_cases hl:ns.length=ms.length
 ·refine ⟨rfl,_,rfl,?_⟩
  dsimp only
  rw[decide_eq_true (show V.int (ns.length:Int)=V.int (ms.length:Int) by rw[hl])]
  refine ⟨_,rfl,a,_,rfl,.inr (.of (g12 _ _ ha)),_,rfl,x,st,r,(ns.length:Int),(by rw[d6]),by lia,by lia,hx.kp (g12.kp st),hxo,fun hr2 H3 g3=>?_,fun hr2 H3 g3=>qE 1 (.inr (.inr (.inl ⟨rfl,hw,hw2,hl,hr2⟩))) H3 (g12.trans g3)⟩
  exact ⟨_,rfl,y,st,g,0,4,rfl,hy.kp ((g12.trans g3).kp st),sm_0,(by unfold Sm;decide +kernel),(fun z=>qQ ⟨hw,hw2,hl,hr2,z⟩ H3 (g12.trans g3)),fun z=>qE 5 (.inr (.inr (.inr ⟨rfl,hw,hw2,hl,hr2,z⟩))) H3 (g12.trans g3)⟩
 ·refine ⟨rfl,_,rfl,?_⟩
  dsimp only
  rw[decide_eq_false (show ¬ V.int (ns.length:Int)=V.int (ms.length:Int) from fun z=>hl (by injection z with z;lia))]
  exact qE 8 (.inr (.inl ⟨rfl,hw,hw2,hl⟩)) H2 g12
noncomputable def xC (P:j6) (w:r9):Sp:=fun vs H Q _=>∃(d st:Addr) (v:V) (n m N E:Nat) (T:F7) (xs:PX) (rs:List (List Int)),vs=[.ref d,v]/\H d=some (N6 P w d xs)/\QP n H T xs/\KU n m T/\m<=45/\T.length<=256/\bU N E T/\0<N/\N<=2 ^ 1600/\E<=2 ^ 60/\Dt st H (DR rs) v/\Mt.lU n 5 rs/\n<=4 /\
 ∀p xs' H',Kp d H H'->H p=none->H' p=some (N6 P w p xs')->QP n H' (S8 n rs T []) xs'->Q (.ref p) H'
noncomputable abbrev CD:Stmt:=fE 39
theorem hG:D9 ["chances","rule","later","drawn","fed","so_far","kind","balls","behind","part"] ["chances","rule"] (A1 CD):=⟨rfl,rfl,rfl,by decide +kernel,rfl,by decide +kernel,by decide +kernel⟩
theorem HX (F:bT K "next_chances_of_two" "next_chances_of_two" CD f fd) (B:Bt mg) (B3:LK mg) (c1:V4 P w K mg base 1 "put_in" ["urn","rule","kind"] mE) (c2:V4 P w K mg base 3 "times" ["one","other"] dD) (c3:V4 P w K mg base 3 "share" ["urn","kind"] lp) (c4:V4 P w K mg base 3 "plus" ["one","other"] fF):N0 P w K mg base dI 4 f fd ["chances","rule"] (xC P w):=by
 refine F.ok hG (fun vs H Q E h=>?_) (fun cdv A outer s H vs Q E hr h=>?_)
 ·refine fS fun R k_=>?_
  obtain ⟨d,st,v,n,m,N,E,T,xs,rs,rfl,_⟩:=h
  refine k_ ?_
  rfl
 refine fS fun R k_=>?_
 obtain ⟨d,st,v,n,m,N,En,T,xs,rs,rfl,hd,hQ,hK,hm,hT,hE,hN0,hN,hEn,hv,hR,n4,q⟩:=h
 refine k_ ?_
 refine ⟨_,(@m7 _ _ _ _ _ (@F9 _ _ 2 _ _ _ _ hG.nd rfl (A2 rfl) zt (by rfl) (by first|exact .inl rfl|exact .inr rfl))
  (@m7 _ _ _ _ _ (cO J7 rfl (mM (pv 0)) (mO rfl (G0 (mO rfl (G0 (T7 (i:=3) hG.nd rfl (A2 rfl)) (G0 (T7 (i:=4) hG.nd rfl (A2 rfl)) Z3))) (G0 (T7 (i:=5) hG.nd rfl (A2 rfl)) Z3)))
  (@t6 _ _ _ (cO J7 rfl (vO rfl B3.enumerate (@b7 _ _ _ _ _ (pv 3) d8 (by rfl))) (mO rfl (G0 (T7 (i:=6) hG.nd rfl (A2 rfl)) (G0 (T7 (i:=7) hG.nd rfl (A2 rfl)) Z3)))
  (@t6 _ _ _ (V6 (@R7 _ _ _ _ _ _ _ _ rO (pv 7) j0 (O8 _)) (@m7 _ _ _ _ _ (@F9 _ _ 8 _ _ _ _ hG.nd rfl (A2 rfl) (@D3 _ _ _ _ _ (@b7 _ _ _ _ _ (B9 (c1.up (by decide)) hr rfl (@b7 _ _ _ _ _ (pv 4) (@b7 _ _ _ _ _ (pv 1) (@b7 _ _ _ _ _ (pv 6) d8 (by rfl)) (by rfl)) (by rfl))) (@b7 _ _ _ _ _ (pv 3) d8 (by rfl)) (by rfl))) (by rfl) (by first|exact .inl rfl|exact .inr rfl))
  (@m7 _ _ _ _ _ (@F9 _ _ 9 _ _ _ _ hG.nd rfl (A2 rfl) (B9 c2 hr rfl (@b7 _ _ _ _ _ (pv 5) (@b7 _ _ _ _ _ (B9 c3 hr rfl (@b7 _ _ _ _ _ (pv 3) (@b7 _ _ _ _ _ (pv 6) d8 (by rfl)) (by rfl))) d8 (by rfl)) (by rfl))) (by rfl) (by first|exact .inl rfl|exact .inr rfl))
  (@t6 _ _ _ (zq (Jk hr) (pv 2) (pv 8) (B9 c4 hr rfl (@b7 _ _ _ _ _ (vQ (Jk hr) (pv 2) (pv 8) (@D3 _ _ _ _ _ (@b7 _ _ _ _ _ j0 (@b7 _ _ _ _ _ j0 d8 (by rfl)) (by rfl))) ⟨rfl,rfl,rfl,rfl⟩) (@b7 _ _ _ _ _ (pv 9) d8 (by rfl)) (by rfl))) rfl)))) K9)))))
  (@t6 _ _ _ (D7 (pv 2))))),?_⟩
 have hv0:Dt d H (DR rs) v:=uK hd hv
 have ndt:∀a ps ys,N6 P w a ps≠.tup ys:=fun _ _ _ z=>by unfold N6 at z;cases z
 intro lt hlt
 have nlt:d≠lt:=v5 hd hlt
 refine ⟨_,rfl,d,xs,rfl,(by rw[C0 nlt];exact hd),fun o=>?_⟩
 have k0:Kp d H (n5 (n5 H lt (N6 P w lt [])) d (.frz o (N6 P w d xs))):=fun b u nb e=>by rw[C0 nb,C0 (v5 e hlt)];exact e
 refine yE (o:=o) (fun i σ H2=>Kp d H H2/\H2 d=some (.frz o (N6 P w d xs))/\(∃ys,H2 lt=some (N6 P w lt ys)/\QP n H2 (S8 n rs (T.take i) []) ys)/\i<=T.length/\∃o3 o4 o5 o6 o7 o8 o9,σ=[some (.ref d),some v,some (.ref lt),o3,o4,o5,o6,o7,o8,o9])
  ⟨k0,f7,⟨[],by rw[C0 nlt.symm];exact f7,.nil⟩,u9 _,none,none,none,none,none,none,none,rfl⟩ (fun i σ H2 _ h=>h.2.1) (fun i x σ H2 p hx hp h=>?_) (fun σ H2 h=>?_)
 ·refine fS fun R k_=>?_
  obtain ⟨k2,hd2,⟨ys2,hl2,hq2⟩,hi,o3,o4,o5,o6,o7,o8,o9,rfl⟩:=h
  refine k_ ?_
  have hil:i<T.length:=by rw[hQ.len];exact (List.getElem?_eq_some_iff.mp hx).1
  refine fS fun R k_=>?_
  obtain ⟨x',hx',ek,⟨c,e,hk1,hk2,hk3⟩,hfr⟩:=Paired.get hQ (f6 hil)
  refine k_ ?_
  rw[hx] at hx'
  cases hx'
  generalize hum:T[i]=um at ek hfr
  have hmem:um∈T:=by rw[<- hum];exact K0 hil
  have hum':T[i]?=some um:=by rw[f6 hil,hum]
  obtain ⟨kk,mm⟩:=um
  have hku:=hK (kk,mm) hmem
  have hmm:Vq N En mm:=hE (kk,mm) hmem
  obtain ⟨uu,euu⟩:∃uu,uu=kk.take n:=⟨_,rfl⟩
  obtain ⟨vv,evv⟩:∃vv,vv=kk.drop n:=⟨_,rfl⟩
  have hU:aq n m uu:=by rw[euu];exact hku.one
  have hV:aq n m vv:=by rw[evv];exact hku.two
  have t2:=ip hd (ndt _ _) k2
  rw[ek] at hk2 hk3
  have hc2:H2 c=some (.tup (uu.map V.int)):=t2 _ _ (by rw[hk2,euu];show some (HO.tup ((kI (kk.take n)).map kV))=_;rw[fK])
  have he2:H2 e=some (.tup (vv.map V.int)):=t2 _ _ (by rw[hk3,evv];show some (HO.tup ((kI (kk.drop n)).map kV))=_;rw[fK])
  have hb2:=t2 _ _ hk1
  have hf2:H2 x.2.2=some (.tup ((fr mm).map V.int)):=t2 _ _ hfr
  have g3:i7 H2 (n5 H2 p (.tup [.ref x.2.1,.ref x.2.2])):=i7.new hp
  refine ⟨p,_,rfl,.of f7,rfl,_,_,rfl,⟨_,_,rfl,.of (g3 _ _ hb2),rfl,_,_,rfl,_,_,rfl,rfl,?_⟩⟩
  refine ⟨_,_,rfl,rfl,?_⟩
  show JN _ _ _ _ _ (n5 H2 p (.tup [.ref x.2.1,.ref x.2.2]))
  generalize n5 H2 p (.tup [.ref x.2.1,.ref x.2.2])=H3 at g3
  have k3:Kp d H H3:=k2.trans (g3.kp d)
  have hc3:=g3 _ _ hc2
  have he3:=g3 _ _ he2
  have hf3:=g3 _ _ hf2
  have hl3:=g3 _ _ hl2
  have hd3:=g3 _ _ hd2
  have hq3:QP n H3 (S8 n rs (T.take i) []) ys2:=hq2.mono fun a zs e=>g3 _ _ e
  refine fS fun R k_=>?_
  obtain ⟨kk1,kk2,kk3,kk4⟩:=mS (D:=[]) (B:=0) hR n4 (by lia) (T.take i) (fun q hq=>hK q (C9 hq)) (fun q hq=>hE q (C9 hq)) (fun p hp=>by simp at hp) (by unfold fq;simp) (fun p hp=>by simp at hp)
  refine k_ ?_
  have hti:(T.take i).length<=256:=by rw[y7];lia
  have hle:(S8 n rs (T.take i) []).length<=4*256:=n6 kk4 (by rw[S5,U7];exact C7 n4 hti)
  have hs0:=hU.pos
  have hs1:=lh hU n4 (by lia)
  refine ⟨_,rfl,c,_,rfl,.of hc3,?_⟩
  refine AZ (K:=K) (a:=c) (xs:=uu.map V.int) (fun j σ H5=>Kp lt H3 H5/\(∃ys,H5 lt=some (N6 P w lt ys)/\QP n H5 (Q6 mm uu.sum (jT rs uu vv j) (S8 n rs (T.take i) [])) ys)/\j<=n/\∃o6 o7 o8 o9,σ=[some (.ref d),some v,some (.ref lt),some (.ref c),some (.ref e),some (.ref x.2.2),o6,o7,o8,o9])
   ⟨Kp.refl _ _,⟨ys2,hl3,hq3⟩,u9 _,o6,o7,o8,o9,rfl⟩ (fun j σ H5 _ h=>.of (h.1 _ _ (Dr hc3 hl3 (ndt _ _ _).symm) hc3)) (fun j b σ H5 p5 hb hp5 h=>?_) (fun σ H5 h=>?_)
  ·refine fS fun R k_=>?_
   obtain ⟨k5,⟨ys5,hl5,hq5⟩,hj,o6,o7,o8,o9,rfl⟩:=h
   refine k_ ?_
   have hjn:j<n:=by have:=(List.getElem?_eq_some_iff.mp hb).1;rw[d6,hU.len] at this;exact this
   have eb:b=.int (uu.getD j 0):=by
    rw[A4] at hb
    rw[E2]
    cases hz:uu[j]? with
    | none=>rw[hz] at hb;cases hb
    | some z=>rw[hz] at hb;cases hb;rfl
   subst eb
   have g6:i7 H5 (n5 H5 p5 (.tup [.int j,.int (uu.getD j 0)])):=i7.new hp5
   refine ⟨p5,_,rfl,.of f7,rfl,_,_,rfl,_,_,rfl,rfl,?_⟩
   dsimp only
   generalize n5 H5 p5 (.tup [.int j,.int (uu.getD j 0)])=H6 at g6
   refine nmD fun D_ n_ _=>?_
   have t36:∀a zs,H3 a=some (.tup zs)->H6 a=some (.tup zs):=fun a zs e=>g6 _ _ (ip hl3 (ndt _ _) k5 _ _ e)
   have k6:Kp lt H3 H6:=k5.trans (g6.kp lt)
   have hl6:=g6 _ _ hl5
   have hq6:QP n H6 (Q6 mm uu.sum (jT rs uu vv j) (S8 n rs (T.take i) [])) ys5:=hq5.mono fun a zs e=>g6 _ _ e
   refine ⟨_,rfl,_,_,rfl,rfl,_,rfl,?_⟩
   by_cases hpos:0<uu.getD j 0
   ·rw[decide_eq_true hpos]
    refine V0 ?_
    refine fS fun R k_=>?_
    obtain ⟨pp1,pp2,pp3,pp4⟩:=jf (W:=Uu n (m+5)) hmm hs0 hs1 (jT rs uu vv j) (fun b hb=>have z:=oA hR hU hV (U8 hjn) b hb;⟨z.1,z.2.1⟩) kk1 kk2 kk3
    refine k_ ?_
    have hjt:=uq rs uu vv j
    have hlen:(Q6 mm uu.sum (jT rs uu vv j) (S8 n rs (T.take i) [])).length<=10000:=by lia
    have cv:Vq LL 1 (cut (uu.getD j 0) uu.sum):=uA (by lia) (aL hU j) hs0 hs1
    have cb:Bd 12 (cut (uu.getD j 0) uu.sum):=Bd.cut hs0 (by have:=aL hU j;show _<=4096;lia) (by show _<=4096;lia)
    have pv':Vq (N*LL) En (mm*cut (uu.getD j 0) uu.sum):=(hmm.mul cv).mono (by lia)
    have hNL:N*LL<=2 ^ 1900:=by
     have:(2:Nat) ^ 1900=2 ^ 1600*2 ^ 300:=by rw[<- K7]
     rw[this];exact C7 hN wM
    have hNL0:0<N*LL:=cG hN0 qv
    have big:∀X:Nat,X<=2 ^ 60*2 ^ 13->N*LL*X<=2 ^ 1973:=fun X hX=>by
     have:(2:Nat) ^ 1973=2 ^ 1900*(2 ^ 60*2 ^ 13):=by rw[<- K7,<- K7]
     rw[this];exact C7 hNL hX
    have hNL2:N*LL<=2 ^ 1973:=n6 hNL (C6 (by decide) (by decide))
    have d1:Bd 1660 mm:=hmm.bd hN0 (by
     have:(2:Nat) ^ 1660=2 ^ 1600*2 ^ 60:=by rw[<- K7]
     rw[this];exact C7 hN hEn) (n6 hN (C6 (by decide) (by decide)))
    have d2:Bd 1973 (mm*cut (uu.getD j 0) uu.sum):=pv'.bd hNL0 (big _ (n6 hEn (yS _ (by decide)))) hNL2
    have vvq:=pp3.val (k:=U3 vv (rs.getD j [])++uu)
    have d3:Bd 1973 (iM (Q6 mm uu.sum (jT rs uu vv j) (S8 n rs (T.take i) [])) (U3 vv (rs.getD j [])++uu)):=vvq.bd hNL0 (big _ (by
     have e1:0+En*(4*(T.take i).length)+En*(jT rs uu vv j).length<=En*(2 ^ 13):=by
      rw[U7,<- V5];exact L6 _ (by lia)
     exact n6 e1 (BK _ hEn))) hNL2
    have hc6:=t36 _ _ hc3
    have he6:=t36 _ _ he3
    have hf6:=t36 _ _ hf3
    have hlv:vv.length=n:=hV.len
    have hv6:Dt lt H6 (DR rs) v:=(uK hl3 (hv0.kp k3)).kp k6
    refine ⟨_,rfl,_,rfl,_,rfl,e,lt,v,n,5,vv,rs,j,rfl,he6,hlv,hv6,hR,n4,hjn,fun p7 H7 g7 hp7=>?_⟩
    refine ⟨_,rfl,by show 2<=i6;decide,fun p8 hp8=>?_⟩
    have g8:i7 H7 (n5 H7 p8 (.tup [.ref p7,.ref c])):=i7.new hp8
    have h88:n5 H7 p8 (.tup [.ref p7,.ref c]) p8=some (.tup [.ref p7,.ref c]):=f7
    try dsimp -proj only
    generalize n5 H7 p8 (.tup [.ref p7,.ref c])=H8 at g8 h88
    have g68:i7 H6 H8:=g7.trans g8
    refine ⟨_,rfl,_,rfl,_,rfl,c,n,m,uu,j,rfl,g68 _ _ hc6,hU,n4,by lia,hjn,fun p9 H9 g9 hp9=>?_⟩
    refine ⟨x.2.2,p9,mm,Mt.cj uu j,1660,12,rfl,g9 _ _ (g68 _ _ hf6),hp9,Rat.num_nonneg.mpr hmm.nn,Rat.num_nonneg.mpr cv.nn,d1,cb,by decide,fun p10 H10 g10 hp10=>?_⟩
    have g8a:i7 H8 H10:=g9.trans g10
    have g6a:i7 H6 H10:=g68.trans g8a
    have hla:(U3 vv (rs.getD j [])).length=n:=(hV.add (hR.at hjn)).len
    obtain ⟨et,ed⟩:=W9 (v:=uu) hla
    have kpt:∀{H':Hp},i7 H10 H'->xg H' (kP n (U3 vv (rs.getD j [])++uu)) p8:=fun {H'} g=>by
     refine ⟨p7,c,g _ _ (g8a _ _ h88),?_,?_⟩
     ·unfold kP
      rw[et]
      show H' p7=some (.tup ((kI _).map kV))
      rw[fK];exact g _ _ (g8a _ _ (g8 _ _ hp7))
     ·unfold kP
      rw[ed]
      show H' c=some (.tup ((kI _).map kV))
      rw[fK];exact g _ _ (g6a _ _ hc6)
    refine ⟨_,rfl,lt,ys5,rfl,.inl (g6a _ _ hl6),_,rfl,(by show 2<=i6;decide),fun p11 hp11=>?_⟩
    have g11:i7 H10 (n5 H10 p11 (.tup [.int 0,.int 1])):=i7.new hp11
    have hz11:rn (n5 H10 p11 (.tup [.int 0,.int 1])) 0 (.ref p11):=⟨p11,rfl,f7⟩
    try dsimp -proj only
    generalize n5 H10 p11 (.tup [.int 0,.int 1])=H11 at g11 hz11
    have hq11:QP n H11 (Q6 mm uu.sum (jT rs uu vv j) (S8 n rs (T.take i) [])) ys5:=hq6.mono fun a zs e=>g11 _ _ (g6a _ _ e)
    obtain ⟨r11,er11,hr11⟩:=hq11.val (k:=U3 vv (rs.getD j [])++uu) hz11
    refine ⟨ys5,kP n (U3 vv (rs.getD j [])++uu),p8,.inl (g11 _ _ (g6a _ _ hl6)),hq11.pks,rfl,kpt g11,?_⟩
    rw[er11]
    refine ⟨_,rfl,r11,p10,_,mm*Mt.cj uu j,1973,1973,rfl,hr11,g11 _ _ hp10,Rat.num_nonneg.mpr vvq.nn,Rat.num_nonneg.mpr pv'.nn,d3,d2,by decide,fun p12 H12 g12 hp12=>?_⟩
    have g6c:i7 H6 H12:=g6a.trans (g11.trans g12)
    have hq12:QP n H12 (Q6 mm uu.sum (jT rs uu vv j) (S8 n rs (T.take i) [])) ys5:=hq11.mono fun a zs e=>g12 _ _ e
    refine ⟨_,rfl,_,rfl,lt,ys5,kP n (U3 vv (rs.getD j [])++uu),p8,p12,rfl,rfl,rfl,g6c _ _ hl6,hq12.pks,kpt (g11.trans g12),by rw[<- hq12.len];exact jw hlen,?_⟩
    have hq13:=QP.put (x:=mm*Mt.cj uu j) (kpt (g11.trans g12)) hq12 pp2 hp12
    refine n_ _ _ ⟨(k6.trans (g6c.kp lt)).trans Kp.at,⟨_,f7,?_⟩,hjn,_,_,_,_,rfl⟩
    have eu:jT rs uu vv (j+1)=jT rs uu vv j++[(uu.getD j 0,U3 vv (rs.getD j [])++uu)]:=by
     show jT rs uu vv j++_=_
     rw[if_pos hpos]
    rw[eu,kA]
    exact hq13.mono (ip (g6c _ _ hl6) (ndt _ _) Kp.at)
   ·rw[decide_eq_false hpos]
    refine W3 ?_
    refine n_ _ _ ⟨k6,⟨ys5,hl6,?_⟩,hjn,_,_,_,_,rfl⟩
    have eu:jT rs uu vv (j+1)=jT rs uu vv j:=by
     show jT rs uu vv j++_=_
     rw[if_neg hpos,S6]
    rw[eu]
    exact hq6
  ·refine fS fun R k_=>?_
   obtain ⟨k5,⟨ys5,hl5,hq5⟩,_,o6,o7,o8,o9,rfl⟩:=h
   refine k_ ?_
   refine ⟨fun b o nb e=>k5 _ _ (v5 e hlt) (k3 _ _ nb e),k5 _ _ nlt hd3,⟨ys5,hl5,?_⟩,hil,_,_,_,_,_,_,_,rfl⟩
   rw[D2,hum']
   show QP n H5 (S8 n rs (T.take i++[(kk,mm)]) []) ys5
   rw[nP,<- euu,<- evv]
   rw[d6,hU.len] at hq5
   exact hq5
 ·refine fS fun R k_=>?_
  obtain ⟨k2,hd2,⟨ys2,hl2,hq2⟩,_,o3,o4,o5,o6,o7,o8,o9,rfl⟩:=h
  refine k_ ?_
  rw[<- hQ.len,D4] at hq2
  exact ⟨_,rfl,q lt ys2 H2 k2 hlt hl2 hq2⟩
end
structure Ln (st:Addr) (H:Hp) (n:Nat) (us ws:List Int) (rs:List (List Int)) (k:Nat) (a b:Addr) (v:V):Prop where
 u:Dt st H (DI us) (.ref a)
 uu:Mt.aq n 20 us
 w:Dt st H (DI ws) (.ref b)
 wu:Mt.aq n 20 ws
 r:Dt st H (DR rs) v
 ru:Mt.lU n 5 rs
 n1:1<=n
 n4:n<=4
 k4:k<=4
noncomputable def Lb (ec:Nat->Addr) (vs:List V) (H:Hp) (E:XK):Prop:=∃(st:Addr) (u v x y:V) (d e r g:B0) (i:Nat),vs=[u,v,x,y]/\Dt st H d u/\bN d/\Dt st H e v/\bN e/\Dt st H r x/\Bx r/\Dt st H g y/\qy d e r g i/\∀H',i7 H H'->E (.ref (ec i)) none H'
theorem qy.one {d e r g:B0}{i j:Nat} (h:qy d e r g i) (h':qy d e r g j):i=j:=by
 unfold qy at h h'
 rcases h with ⟨rfl,h⟩|⟨rfl,h1,h2,h3⟩|⟨rfl,h1,h2,h3,h4⟩|⟨rfl,h1,h2,h3,h4,h5⟩ <;> rcases h' with ⟨rfl,z⟩|⟨rfl,z1,z2,z3⟩|⟨rfl,z1,z2,z3,z4⟩|⟨rfl,z1,z2,z3,z4,z5⟩ <;> simp_all
theorem qy.no {d e r g:B0}{i:Nat} (h:qy d e r g i) (h':Jm d e r g):False:=by
 unfold qy at h
 unfold Jm at h'
 obtain ⟨z1,z2,z3,z4,z5⟩:=h'
 rcases h with ⟨rfl,h⟩|⟨rfl,h1,h2,h3⟩|⟨rfl,h1,h2,h3,h4⟩|⟨rfl,h1,h2,h3,h4,h5⟩ <;> simp_all
theorem DT {P:j6}{w:r9}{K:m9}{d:Addr}{o:Obj}{xs:PX}{n m:Nat}{T:F7}{H:Hp}{F:List V->Hp->Prop} (sw:Bool) (hQ:QP n H T xs) (hK:KU n m T) (hd:H d=some (.frz o (N6 P w d xs))) (hl:xs.length<=i6)
  (fin:∀as H',Kp d H H'->R3 n H' (bif sw then uS n T else T) as->F (as.map V.ref) H'):
  Bn (IK P w d o xs) [none,none,none] (qi K 2 (bP (qi K 2 (bP (V7 0) (bP (V7 1) rj))) (bP (V7 2) rj))) S1 (tq (bM (T6 (bif sw then 1 else 0)) (bM (T6 (bif sw then 0 else 1)) (bM (T6 2) mD)))) H F:=by
 have nfz:∀ys,HO.frz o (N6 P w d xs)≠.tup ys:=fun _ z=>by cases z
 have hlT:(bif sw then uS n T else T).length=T.length:=by cases sw <;> simp[uS]
 refine yL hl (fun i ys H5=>Kp d H H5/\H5 d=some (.frz o (N6 P w d xs))/\∃as:List Addr,ys=as.map V.ref/\as.length=i/\R3 n H5 ((bif sw then uS n T else T).take i) as) ⟨Kp.refl _ _,hd,[],rfl,rfl,.nil⟩ (fun i ys H5 h=>?_) (fun i ys H5 _ h=>⟨h.2.1,(hQ.mono (ip hd nfz h.1)).pks⟩) ⟨rfl,rfl,rfl⟩ (fun i ys H5 x c e p hx hp h1 h2 h3 h=>?_) (fun ys H5 h=>?_)
 ·obtain ⟨_,_,as,rfl,ha,_⟩:=h
  rw[d6];exact Mb ha
 ·obtain ⟨k5,hd5,as,rfl,ha,hR5⟩:=h
  have hil:i<T.length:=by rw[hQ.len];exact (List.getElem?_eq_some_iff.mp hx).1
  obtain ⟨x',hx',ek,_,hfr⟩:=Paired.get hQ (f6 hil)
  rw[hx] at hx'
  cases hx'
  have hku:=hK _ (K0 hil)
  rw[ek] at h2 h3
  have e1:((kP n T[i].1).1).map kV=(T[i].1.take n).map V.int:=fK _
  have e2:((kP n T[i].1).2).map kV=(T[i].1.drop n).map V.int:=fK _
  rw[e1] at h2
  rw[e2] at h3
  have hf5:=ip hd nfz k5 _ _ hfr
  have g6:i7 H5 (n5 H5 p (.tup [.ref x.2.1,.ref x.2.2])):=i7.new hp
  have step:∀(q:Addr) (c1 c2:Addr) (pr:List Int × Rat) (H7:Hp),i7 H5 H7->H7 q=some (.tup [.ref c1,.ref c2,.ref x.2.2])->H7 c1=some (.tup ((pr.1.take n).map V.int))->H7 c2=some (.tup ((pr.1.drop n).map V.int))->pr.2=T[i].2->(bif sw then uS n T else T)[i]?=some pr ->
    Kp d H H7/\H7 d=some (.frz o (N6 P w d xs))/\∃as':List Addr,as.map V.ref++[.ref q]=as'.map V.ref/\as'.length=i+1/\R3 n H7 ((bif sw then uS n T else T).take (i+1)) as':=fun q c1 c2 pr H7 g7 hq h1 h2 e hg=>by
   refine ⟨k5.trans (g7.kp d),g7 _ _ hd5,as++[q],by rw[A3];rfl,by rw[v9,ha];rfl,?_⟩
   rw[D2,hg]
   exact bO ⟨c1,c2,x.2.2,hq,h1,h2,by rw[e];exact g7 _ _ hf5⟩ (R3.mono hR5 fun a ys e=>g7 _ _ e)
  cases sw with
  | false =>
   refine ⟨_,rfl,_,rfl,_,rfl,(by show 3<=i6;decide),fun q hq=>?_⟩
   exact step q c e T[i] _ (g6.trans (i7.new hq)) f7 (i7.new hq _ _ (g6 _ _ h2)) (i7.new hq _ _ (g6 _ _ h3)) rfl (f6 hil)
  | true =>
   refine ⟨_,rfl,_,rfl,_,rfl,(by show 3<=i6;decide),fun q hq=>?_⟩
   obtain ⟨t1,t2⟩:=W9 (v:=T[i].1.take n) hku.two.len
   refine step q e c (T[i].1.drop n++T[i].1.take n,T[i].2) _ (g6.trans (i7.new hq)) f7 (by rw[t1];exact i7.new hq _ _ (g6 _ _ h3)) (by rw[t2];exact i7.new hq _ _ (g6 _ _ h2)) rfl ?_
   show (uS n T)[i]?=_
   unfold uS
   rw[A4,f6 hil];rfl
 ·obtain ⟨k5,_,as,rfl,ha,hR5⟩:=h
  rw[K1 (by rw[hlT,hQ.len];exact i8 _)] at hR5
  exact fin as H5 k5 hR5
section
variable {P:j6}{w:r9}{K:m9}{mg:Str->Option b9}{base:Heap}{f:Addr}{fd:D6}{ec:Nat->Addr}{Bs:Addr}
noncomputable def GO:Sp:=fun vs H Q _=>∃(st a b:Addr) (v:V) (n k:Nat) (us ws:List Int) (rs:List (List Int)),vs=[.ref a,.ref b,v,.int k]/\Ln st H n us ws rs k a b v /\
 ∀D as T' H',H D=none->i7 H H'->T'.Perm (tw n rs k us ws)->qu T'->H' D=some (.lst (as.map V.ref))->R3 n H' T' as->Q (.ref D) H'
noncomputable def Cj (ec:Nat->Addr):Sp:=fun vs H Q E=>Lb ec vs H E ∨ GO vs H Q E
noncomputable abbrev GW:Stmt:=fE 40
theorem zg:D9 ["one","other","rule","draws","chances","turn"] ["one","other","rule","draws"] (A1 GW):=⟨rfl,rfl,rfl,by decide +kernel,rfl,by decide +kernel,by decide +kernel⟩
theorem Kw (F:bT K "two_stands" "two_stands" GW f fd) (B:Bt mg) (B3:LK mg) (c1:fU P w K mg base 6 "need_two" ["one","other","rule","draws"] (Co ec)) (c2:V4 P w K mg base 1 "own_urn" ["urn"] kg) (c3:V4 P w K mg base 4 "next_chances_of_two" ["chances","rule"] (xC P w)):N0 P w K mg base (kT P w) 7 f fd ["one","other","rule","draws"] (Cj ec):=by
 refine F.okX zg (fun vs H Q E h=>?_) (fun cdv A outer s H vs Q E hr h=>?_)
 ·rcases h with ⟨st,u,v,x,y,d,e,r,g,i,rfl,_⟩|⟨st,a,b,v,n,k,us,ws,rs,rfl,_⟩
  ·rfl
  ·rfl
 refine ⟨_,(@m7 _ _ _ _ _ (fI (cm c1 hr rfl fJ (@b7 _ _ _ _ _ (pv 0) (@b7 _ _ _ _ _ (pv 1) (@b7 _ _ _ _ _ (pv 2) (@b7 _ _ _ _ _ (pv 3) d8 (by rfl)) (by rfl)) (by rfl)) (by rfl))))
  (qI.nox (@m7 _ _ _ _ _ (@F9 _ _ 4 _ _ _ _ zg.nd rfl (A2 rfl) (EX (Jk hr) (@D3 _ _ _ _ _ (@b7 _ _ _ _ _ (B9 (c2.up (by decide)) hr rfl (@b7 _ _ _ _ _ (pv 0) d8 (by rfl))) (@b7 _ _ _ _ _ (B9 (c2.up (by decide)) hr rfl (@b7 _ _ _ _ _ (pv 1) d8 (by rfl))) d8 (by rfl)) (by rfl))) (@D3 _ _ _ _ _ (@b7 _ _ _ _ _ j0 (@b7 _ _ _ _ _ j0 d8 (by rfl)) (by rfl)))) (by rfl) (by first|exact .inl rfl|exact .inr rfl))
  (@m7 _ _ _ _ _ (cO J7 rfl (P2 rfl B.range (@b7 _ _ _ _ _ (pv 3) d8 (by rfl))) (T7 (i:=5) zg.nd rfl (A2 rfl))
  (@t6 _ _ _ (@F9 _ _ 4 _ _ _ _ zg.nd rfl (A2 rfl) (B9 (c3.up (by decide)) hr rfl (@b7 _ _ _ _ _ (pv 4) (@b7 _ _ _ _ _ (pv 2) d8 (by rfl)) (by rfl))) (by rfl) (by first|exact .inl rfl|exact .inr rfl))))
  (@m7 _ _ _ _ _ (V6 (@R7 _ _ _ _ _ _ _ _ jj (@D5 _ _ _ _ _ _ _ _ dS (pv 3) j0) j0 (O8 _)) (@t6 _ _ _ (D7 (u5 (qo hr.units) rfl B3.sorted jr (@b7 _ _ _ _ _ (N4 (N:=["second","first","so_likely"]) (ix:=[none,none,none]) (ifs:=[]) (tc:=S1) rfl (mM (pv 4))
   (fun s H ex=>qX (K:=K) (n:=2) rfl rfl (G0 (qX (K:=K) (n:=2) rfl rfl (G0 (aj (i:=0) (by decide +kernel) rfl (A2 rfl) (.inr rfl)) (G0 (aj (i:=1) (by decide +kernel) rfl (A2 rfl) (.inr rfl)) Z3))) (G0 (aj (i:=2) (by decide +kernel) rfl (A2 rfl) (.inr rfl)) Z3))) (fun s H ex=>M4) (fun s H ex=>(@D3 _ _ _ _ _ (@b7 _ _ _ _ _ (pv 1) (@b7 _ _ _ _ _ (pv 0) (@b7 _ _ _ _ _ (pv 2) d8 (by rfl)) (by rfl)) (by rfl)))) rfl (by decide +kernel) (by rfl) (by rfl) (fun _=>rfl)) d8 (by rfl))))) K9)
  (@t6 _ _ _ (D7 (u5 (qo hr.units) rfl B3.sorted jr (@b7 _ _ _ _ _ (N4 (N:=["first","second","so_likely"]) (ix:=[none,none,none]) (ifs:=[]) (tc:=S1) rfl (mM (pv 4))
   (fun s H ex=>qX (K:=K) (n:=2) rfl rfl (G0 (qX (K:=K) (n:=2) rfl rfl (G0 (aj (i:=0) (by decide +kernel) rfl (A2 rfl) (.inr rfl)) (G0 (aj (i:=1) (by decide +kernel) rfl (A2 rfl) (.inr rfl)) Z3))) (G0 (aj (i:=2) (by decide +kernel) rfl (A2 rfl) (.inr rfl)) Z3))) (fun s H ex=>M4) (fun s H ex=>(@D3 _ _ _ _ _ (@b7 _ _ _ _ _ (pv 0) (@b7 _ _ _ _ _ (pv 1) (@b7 _ _ _ _ _ (pv 2) d8 (by rfl)) (by rfl)) (by rfl)))) rfl (by decide +kernel) (by rfl) (by rfl) (fun _=>rfl)) d8 (by rfl)))))))))),?_⟩
 rcases h with ⟨st,u,v,x,y,d,e,r,g,i,rfl,hu,hus,hv,hvs,hx,hxo,hy,due,q⟩|⟨st,a,b,v,n,k,us,ws,rs,rfl,hA,q⟩
 ·exact ⟨_,rfl,_,rfl,_,rfl,_,rfl,u,v,x,y,st,d,e,r,g,rfl,hu,hus,hv,hvs,hx,hxo,hy,fun j hj H1 g1=>by rw[hj.one due];exact q H1 g1,fun z=>(due.no z).elim⟩
 ·have hU:=hA.uu
  have hV:=hA.wu
  have hR:=hA.ru
  have n1:=hA.n1
  have n4:=hA.n4
  have k4:=hA.k4
  obtain ⟨a',e,_,ha⟩:=hA.u.di
  cases e
  obtain ⟨b',e,_,hb⟩:=hA.w.di
  cases e
  have uok:=yY hU n1 n4
  have wok:=yY hV n1 n4
  have rok:fi (aE (DI us):Int) (DR rs)=true:=by rw[U5,hU.len];exact CH hR
  have hlen:=hR.len
  have hwk:S7 0 4 (.int (k:Int))=true:=by
   show (decide ((0:Int)<=(k:Int))&&decide ((k:Int)<=4))=true
   rw[decide_eq_true (by lia),decide_eq_true (by lia)];rfl
  have okw:Jm (DI us) (DI ws) (DR rs) (.int (k:Int)):=⟨uok,wok,by rw[U5,U5,hU.len,hV.len],rok,hwk⟩
  refine ⟨_,rfl,_,rfl,_,rfl,_,rfl,_,_,_,_,st,DI us,DI ws,DR rs,.int k,rfl,hA.u,fg (by rw[hU.len];lia),hA.w,fg (by rw[hV.len];lia),hA.r,⟨vt (by lia),rK hR (by lia)⟩,Dt.int _ _ _,(fun j hj=>(hj.no okw).elim),fun _ H1 g1=>?_⟩
  have ndt:∀a ps ys,N6 P w a ps≠.tup ys:=fun _ _ _ z=>by unfold N6 at z;cases z
  intro p hp
  have g2:i7 H1 (n5 H1 p (N6 P w p [])):=i7.new hp
  have hp2:n5 H1 p (N6 P w p []) p=some (N6 P w p []):=f7
  have hHp:H p=none:=g1.free hp
  refine ⟨_,rfl,a,_,rfl,g2 _ _ (g1 _ _ ha),fun b1 H3 g3 hb1=>⟨_,rfl,b,_,rfl,g3 _ _ (g2 _ _ (g1 _ _ hb)),fun b2 H4 g4 hb2=>⟨(by show 2<=i6;decide),fun p5 hp5=>⟨(by show 2<=i6;decide),fun p6 hp6=>?_⟩⟩⟩⟩
  have g24:i7 (n5 H1 p (N6 P w p [])) H4:=i7.trans g3 g4
  have g5:i7 H4 (n5 H4 p5 (.tup [.ref b1,.ref b2])):=i7.new hp5
  have g6:i7 (n5 H4 p5 (.tup [.ref b1,.ref b2])) (n5 (n5 H4 p5 (.tup [.ref b1,.ref b2])) p6 (.tup [.int 1,.int 1])):=i7.new hp6
  have h56:n5 (n5 H4 p5 (.tup [.ref b1,.ref b2])) p6 (.tup [.int 1,.int 1]) p5=some (.tup [.ref b1,.ref b2]):=g6 _ _ f7
  have h66:n5 (n5 H4 p5 (.tup [.ref b1,.ref b2])) p6 (.tup [.int 1,.int 1]) p6=some (.tup [.int 1,.int 1]):=f7
  have g46:=g5.trans g6
  try dsimp -proj only
  generalize n5 (n5 H4 p5 (.tup [.ref b1,.ref b2])) p6 (.tup [.int 1,.int 1])=H6 at g6 h56 h66 g46
  have hp6':H6 p=some (N6 P w p []):=g46 _ _ (g24 _ _ hp2)
  have gg:i7 H H6:=(g1.trans g2).trans (g24.trans g46)
  obtain ⟨et,ed⟩:=W9 (v:=ws) hU.len
  have hb1':H6 b1=some (.tup (us.map V.int)):=g46 _ _ (g4 _ _ hb1)
  have hb2':H6 b2=some (.tup (ws.map V.int)):=g46 _ _ hb2
  have kpt:xg H6 (kP n (us++ws)) p5:=by
   refine ⟨b1,b2,h56,?_,?_⟩
   ·show H6 b1=some (.tup ((kI ((us++ws).take n)).map kV))
    rw[et,fK];exact hb1'
   ·show H6 b2=some (.tup ((kI ((us++ws).drop n)).map kV))
    rw[ed,fK];exact hb2'
  refine ⟨hp6',p5,kP n (us++ws),p6,rfl,rfl,kpt,?_⟩
  have wo:=fun j hj=>qm hR n4 hU hV j hj
  have tp:=ip hp6' (ndt _ _) (Kp.at (o:=N6 P w p [(kP n (us++ws),p5,p6)]))
  have gz:i7 H (n5 H6 p (N6 P w p [(kP n (us++ws),p5,p6)])):=fun c o e=>by rw[C0 (v5 e hHp)];exact gg _ _ e
  have hz:n5 H6 p (N6 P w p [(kP n (us++ws),p5,p6)]) p=some (N6 P w p [(kP n (us++ws),p5,p6)]):=f7
  have hqz:QP n (n5 H6 p (N6 P w p [(kP n (us++ws),p5,p6)])) [(us++ws,1)] [(kP n (us++ws),p5,p6)]:=.cons ⟨rfl,kpt.keep tp,tp _ _ h66⟩ .nil
  refine ⟨_,rfl,(k:Int),rfl,by lia,by lia,?_⟩
  refine eQ (lo:=0) (n:=k) (fun j σ H3=>i7 H H3/\j<=k/\∃p xs o5,H p=none/\H3 p=some (N6 P w p xs)/\QP n H3 (mf n rs j [(us++ws,1)]) xs/\σ=[some (.ref a),some (.ref b),some v,some (.int k),some (.ref p),o5])
   ⟨gz,u9 _,p,_,none,hHp,hz,hqz,rfl⟩ (fun j σ H3 hj h=>?_) (fun σ H3 h=>?_)
  ·obtain ⟨g3,hjk,p,xs,o5,hpn,hp3,hq3,rfl⟩:=h
   obtain ⟨w1,w2,w3,w4⟩:=wo j (by lia)
   have hj3:j<=3:=by lia
   have hl:(mf n rs j [(us++ws,1)]).length<=256:=n6 w4 (C6 (n:=4) (by decide) (show j<=4 by lia))
   have e1:LL ^ j<=2 ^ 1600:=n6 (uH j) (C6 (by decide) (by lia))
   have e2:4 ^ (j*j)<=2 ^ 60:=by
    have:j*j<=3*3:=C7 hj3 hj3
    exact n6 (C6 (by decide) this) (by decide)
   refine ⟨_,rfl,_,rfl,p,st,v,n,20+5*j,LL ^ j,4 ^ (j*j),_,xs,rs,rfl,hp3,hq3,w1,by lia,hl,w3,lW j,e1,e2,hA.r.kp (g3.kp st),hR,n4,fun p' xs' H4 k4 hp' h4 hq4=>?_⟩
   have g4:i7 H H4:=fun c o e=>k4 _ _ (v5 e hpn) (g3 _ _ e)
   exact ⟨g4,by lia,p',xs',_,g3.free hp',h4,hq4,rfl⟩
  ·obtain ⟨g3,_,p,xs,o5,hpn,hp3,hq3,rfl⟩:=h
   obtain ⟨w1,w2,w3,w4⟩:=wo k (by lia)
   have hln:=zU hR n1 n4 hU hV k4
   have fin:∀(sw:Bool) (o:Obj) (as:List Addr) (H5:Hp) (l:Addr),(bif sw then uS n (mf n rs k [(us++ws,1)]) else mf n rs k [(us++ws,1)])=tw n rs k us ws->Kp p (n5 H3 p (.frz o (N6 P w p xs))) H5->R3 n H5 (bif sw then uS n (mf n rs k [(us++ws,1)]) else mf n rs k [(us++ws,1)]) as->H5 l=none ->
     CK K [.ref l] (n5 H5 l (.lst (as.map V.ref))) Q:=fun sw o as H5 l ew k5 h5 hl=>by
    have g6:i7 H5 (n5 H5 l (.lst (as.map V.ref))):=i7.new hl
    have h6:=R3.mono h5 fun a ys e=>g6 _ _ e
    have kt:KU n (20+5*k) (bif sw then uS n (mf n rs k [(us++ws,1)]) else mf n rs k [(us++ws,1)]):=by cases sw;exact w1;exact Cg w1
    have nt:fq (bif sw then uS n (mf n rs k [(us++ws,1)]) else mf n rs k [(us++ws,1)]):=by cases sw;exact w2;exact Cf w1 w2
    have lt:(bif sw then uS n (mf n rs k [(us++ws,1)]) else mf n rs k [(us++ws,1)]).length=(mf n rs k [(us++ws,1)]).length:=by cases sw <;> simp[uS]
    have gH5:i7 H H5:=fun c o' e=>k5 _ _ (v5 e hpn) (by rw[C0 (v5 e hpn)];exact g3 _ _ e)
    refine ⟨l,as,n,BA _,Bz _,rfl,.of f7,?_,h6.trs kt nt,fun D as' H7 pm so g7 hDn hD=>?_⟩
    ·rw[<- U0 h6,lt];exact hln
    ·obtain ⟨T',pT,oT,r7⟩:=h6.sorted pm so g7
     rw[ew] at pT
     exact q D as' T' H7 (gH5.free (g6.free hDn)) (gH5.trans (g6.trans g7)) pT oT hD r7
   have hxl:xs.length<=i6:=by rw[<- hq3.len];exact U8 (jw (by lia))
   have fz:∀(o:Obj) a ys,H3 a=some (.tup ys)->n5 H3 p (.frz o (N6 P w p xs)) a=some (.tup ys):=fun o a ys e=>by rw[C0 (Dr e hp3 (ndt _ _ _).symm)];exact e
   refine ⟨_,rfl,_,_,rfl,rfl,(show (0:Int)<2 by decide),rfl,_,rfl,?_⟩
   by_cases hk:k % 2=1
   ·rw[decide_eq_true (show V.int ((k:Int) % 2)=V.int 1 by congr 1;lia)]
    refine V0 ?_
    exact ⟨_,rfl,p,xs,rfl,hp3,fun o=>DT true (hq3.mono (fz o)) w1 f7 hxl fun as H5 k5 h5 l hl=>fin true o as H5 l (by unfold tw;rw[if_pos hk];rfl) k5 h5 hl⟩
   ·rw[decide_eq_false (show ¬ V.int ((k:Int) % 2)=V.int 1 from fun z=>hk (by injection z with z;lia))]
    refine W3 ?_
    exact ⟨_,rfl,p,xs,rfl,hp3,fun o=>DT false (hq3.mono (fz o)) w1 f7 hxl fun as H5 k5 h5 l hl=>fin false o as H5 l (by unfold tw;rw[if_neg hk];rfl) k5 h5 hl⟩
end
end G
namespace G
open PySem PySem.Spec PyProof.Rows L2 Mt Md Mq
section
variable {P:j6}{w:r9}{K:m9}{mg:Str->Option b9}{base:Heap}{f:Addr}{fd:D6}{ec:Nat->Addr}{Bs:Addr}
noncomputable def mG:Sp:=fun vs H Q _=>∃t b:Int,vs=[.int t,.int b]/\0<=t/\0<b/\b.natAbs.log2<9000/\∀p H',i7 H H'->H' p=some (.tup ((fr (cut t b)).map V.int))->Q (.ref p) H'
noncomputable abbrev CG:Stmt:=fE 48
theorem xK:D9 ["_law_top","_law_bottom","_law_one","_law_other"] ["_law_top","_law_bottom"] (A1 CG):=⟨rfl,rfl,rfl,by decide +kernel,rfl,by decide +kernel,by decide +kernel⟩
theorem Ib (F:bT K "_law_fraction" "_law_fraction" CG f fd) (B:Bt mg):N0 P w K mg base dI 1 f fd ["_law_top","_law_bottom"] mG:=by
 refine F.ok xK (fun vs H Q E h=>?_) (fun cdv A outer s H vs Q E hr h=>?_)
 ·obtain ⟨x,y,rfl,_⟩:=h
  rfl
 obtain ⟨t,b,rfl,ht,hb,hlog,q⟩:=h
 refine ⟨_,m7 (kB (i:=2) (j:=3) rfl xK.nd rfl rfl (by decide) rfl rfl (b7 (pv 1) (b7 (u5 wF rfl B.abs boot_abs (b7 (pv 0) d8)) d8)) rfl)
  (m7 (vM J7 (R7 rO (pv 3) j0 (O8 _)) (t6 (kB (i:=2) (j:=3) rfl xK.nd rfl rfl (by decide) rfl rfl (b7 (pv 3) (b7 (D5 dS (pv 2) (pv 3)) d8)) rfl)))
  (t6 (D7 (D3 (b7 (D5 lC (pv 0) (pv 2)) (b7 (D5 lC (pv 1) (pv 2)) d8)))))),?_⟩
 have g:=zK (t:=t) hb hlog
 refine ⟨_,rfl,_,rfl,t,rfl,_,_,rfl,?_⟩
 rw[if_neg (show ¬ t<0 by lia)]
 refine ⟨fun m σ H2=>H2=H/\∃x' y':Int,0<=x'/\0<=y'/\σ=[some (.int t),some (.int b),some (.int x'),some (.int y')]/\m=y'.toNat/\U9 x' y'=U9 t b,⟨_,rfl,b,t,by lia,ht,rfl,rfl,Int.gcd_comm b t⟩,?_⟩
 rintro m σ H2 ⟨rfl,x',y',h1,h2,rfl,rfl,e⟩
 refine ⟨_,rfl,_,_,rfl,rfl,_,rfl,?_⟩
 by_cases hz:0<y'
 ·rw[decide_eq_true hz]
  refine V0 ⟨fun σ' H'=>H'=H2/\∃a c:Int,0<=a/\0<=c/\σ'=[some (.int t),some (.int b),some (.int a),some (.int c)]/\c.toNat<y'.toNat/\U9 a c=U9 t b,?_,?_⟩
  ·rintro σ' H' ⟨rfl,a,c,ha,hc,rfl,hlt,e2⟩
   exact ⟨_,hlt,rfl,a,c,ha,hc,rfl,rfl,e2⟩
  ·have hm:=cB x' (show y'≠0 by lia)
   have hm2:=aD x' hz
   refine ⟨_,rfl,_,rfl,_,rfl,_,_,rfl,rfl,hz,_,_,rfl,?_⟩
   exact ⟨rfl,y',x' % y',h2,hm,rfl,by lia,by rw[wq h1 hz];exact e⟩
 ·rw[decide_eq_false hz]
  have hy:y'=0:=by lia
  subst hy
  have e2:x'=((U9 t b:Nat):Int):=by rw[<- e,EI];lia
  subst e2
  refine W3 ⟨_,rfl,_,rfl,_,_,rfl,rfl,g,_,rfl,_,rfl,_,_,rfl,rfl,g,(by show 2<=i6;decide),fun p hp=>?_⟩
  refine q p _ (i7.new hp) ?_
  rw[f7,DH hb];rfl
noncomputable abbrev Hu:Stmt:=fE 50
theorem JY:D9 ["_law_one","_law_other"] ["_law_one","_law_other"] (A1 Hu):=⟨rfl,rfl,rfl,by decide +kernel,rfl,by decide +kernel,by decide +kernel⟩
theorem KD (F:bT K "_law_by" "_law_by" Hu f fd) (c1:V4 P w K mg base 1 "_law_fraction" ["_law_top","_law_bottom"] mG):N0 P w K mg base dI 2 f fd ["_law_one","_law_other"] dD:=by
 refine F.ok JY (fun vs H Q E h=>?_) (fun cdv A outer s H vs Q E hr h=>?_)
 ·obtain ⟨p,q,x,y,n,m,rfl,_⟩:=h
  rfl
 obtain ⟨p,q,x,y,n,m,rfl,hp,hq,x0,y0,bx,by',hnm,k⟩:=h
 refine ⟨_,t6 (D7 (B9 c1 hr rfl (b7 (D5 dh (G4 L7 (pv 0) j0 (fun _ _=>rfl)) (G4 L7 (pv 1) j0 (fun _ _=>rfl))) (b7 (D5 dh (G4 L7 (pv 0) j0 (fun _ _=>rfl)) (G4 L7 (pv 1) j0 (fun _ _=>rfl))) d8)))),?_⟩
 have hp':H p=some (.tup [.int x.num,.int x.den]):=hp
 have hq':H q=some (.tup [.int y.num,.int y.den]):=hq
 have b1:B8 x.num<=2 ^ 20:=Y4 bx.num (by lia)
 have b2:B8 y.num<=2 ^ 20:=Y4 by'.num (by lia)
 have b3:B8 (x.den:Int)<=2 ^ 20:=Y4 (by rw[Q3];exact bx.den) (by lia)
 have b4:B8 (y.den:Int)<=2 ^ 20:=Y4 (by rw[Q3];exact by'.den) (by lia)
 refine ⟨_,rfl,p,_,_,_,rfl,rfl,.of hp',E3 (j:=0) rfl,_,rfl,q,_,_,_,rfl,rfl,.of hq',E3 (j:=0) rfl,_,_,rfl,rfl,⟨b1,b2⟩,
  _,rfl,p,_,_,_,rfl,rfl,.of hp',E3 (j:=1) rfl,_,rfl,q,_,_,_,rfl,rfl,.of hq',E3 (j:=1) rfl,_,_,rfl,rfl,⟨b3,b4⟩,_,_,rfl,?_,?_,?_,?_⟩
 ·exact dA x0 y0
 ·have h1:=x.den_nz;have h2:=y.den_nz
  have:=cG (U2 h1) (U2 h2)
  rw[<- cA];lia
 ·rw[eW (by have h1:=x.den_nz;have h2:=y.den_nz;rw[ah];exact cz (by lia) (by lia)),ah]
  refine F2 (C7 bx.den by'.den) ?_
  rw[<- K7]
  exact Y6 (by decide) (by lia)
 ·rw[zQ];exact k
noncomputable abbrev tT:Stmt:=fE 49
theorem CB:D9 ["_law_one","_law_other"] ["_law_one","_law_other"] (A1 tT):=⟨rfl,rfl,rfl,by decide +kernel,rfl,by decide +kernel,by decide +kernel⟩
theorem Dl (F:bT K "_law_plus" "_law_plus" tT f fd) (c1:V4 P w K mg base 1 "_law_fraction" ["_law_top","_law_bottom"] mG):N0 P w K mg base dI 2 f fd ["_law_one","_law_other"] fF:=by
 refine F.ok CB (fun vs H Q E h=>?_) (fun cdv A outer s H vs Q E hr h=>?_)
 ·obtain ⟨p,q,x,y,n,m,rfl,_⟩:=h
  rfl
 obtain ⟨p,q,x,y,n,m,rfl,hp,hq,x0,y0,bx,by',hnm,k⟩:=h
 refine ⟨_,t6 (D7 (B9 c1 hr rfl (b7 (D5 Z5 (D5 dh (G4 L7 (pv 0) j0 (fun _ _=>rfl)) (G4 L7 (pv 1) j0 (fun _ _=>rfl))) (D5 dh (G4 L7 (pv 1) j0 (fun _ _=>rfl)) (G4 L7 (pv 0) j0 (fun _ _=>rfl)))) (b7 (D5 dh (G4 L7 (pv 0) j0 (fun _ _=>rfl)) (G4 L7 (pv 1) j0 (fun _ _=>rfl))) d8)))),?_⟩
 have hp':H p=some (.tup [.int x.num,.int x.den]):=hp
 have hq':H q=some (.tup [.int y.num,.int y.den]):=hq
 have b1:B8 x.num<=2 ^ 20:=Y4 bx.num (by lia)
 have b2:B8 y.num<=2 ^ 20:=Y4 by'.num (by lia)
 have b3:B8 (x.den:Int)<=2 ^ 20:=Y4 (by rw[Q3];exact bx.den) (by lia)
 have b4:B8 (y.den:Int)<=2 ^ 20:=Y4 (by rw[Q3];exact by'.den) (by lia)
 refine ⟨_,rfl,p,_,_,_,rfl,rfl,.of hp',E3 (j:=0) rfl,_,rfl,q,_,_,_,rfl,rfl,.of hq',E3 (j:=1) rfl,_,_,rfl,rfl,⟨b1,b4⟩,
  _,rfl,q,_,_,_,rfl,rfl,.of hq',E3 (j:=0) rfl,_,rfl,p,_,_,_,rfl,rfl,.of hp',E3 (j:=1) rfl,_,_,rfl,rfl,⟨b2,b3⟩,_,_,rfl,rfl,
  _,rfl,p,_,_,_,rfl,rfl,.of hp',E3 (j:=1) rfl,_,rfl,q,_,_,_,rfl,rfl,.of hq',E3 (j:=1) rfl,_,_,rfl,rfl,⟨b3,b4⟩,_,_,rfl,?_,?_,?_,?_⟩
 ·exact JB (dA x0 (by lia)) (dA y0 (by lia))
 ·have h1:=x.den_nz;have h2:=y.den_nz
  have:=cG (U2 h1) (U2 h2)
  rw[<- cA];lia
 ·rw[eW (by have h1:=x.den_nz;have h2:=y.den_nz;rw[ah];exact cz (by lia) (by lia)),ah]
  refine F2 (C7 bx.den by'.den) ?_
  rw[<- K7]
  exact Y6 (by decide) (by lia)
 ·rw[zS];exact k
end
end G
namespace M8
open PySem PySem.Spec L2 Mt Md Mq HP
noncomputable def gK (o:Bool) (u v:List Int):List Int:=bif o then v else u
noncomputable def iI (o:Bool) (u v:List Int):List Int:=bif o then u else v
noncomputable def LF (o:Bool) (u v m:List Int):List Int:=bif o then m++v else u++m
noncomputable def me (o:Bool) (rs:List (List Int)) (u v:List Int):Nat->List (Int × List Int)
 | 0=>[]
 | i+1=>me o rs u v i++(if 0<(gK o u v).getD i 0 then [((gK o u v).getD i 0,LF o u v (U3 (iI o u v) (rs.getD i [])))] else [])
noncomputable def N9 (o:Bool) (n:Nat) (rs:List (List Int)):F7->F7->F7
 | [],D=>D
 | p::T,D=>N9 o n rs T (Q6 p.2 (gK o (p.1.take n) (p.1.drop n)).sum (me o rs (p.1.take n) (p.1.drop n) n) D)
theorem nN (o:Bool) (n:Nat) (rs:List (List Int)) (p:List Int × Rat):∀(T D:F7),N9 o n rs (T++[p]) D=Q6 p.2 (gK o (p.1.take n) (p.1.drop n)).sum (me o rs (p.1.take n) (p.1.drop n) n) (N9 o n rs T D)
 | [],D=>rfl
 | q::T,D=>nN o n rs p T _
variable {o:Bool}{n m:Nat}{u v:List Int}
theorem oH (hu:aq n m u) (hv:aq n m v):aq n m (gK o u v):=by cases o;exact hu;exact hv
theorem oC (hu:aq n m u) (hv:aq n m v):aq n m (iI o u v):=by cases o;exact hv;exact hu
theorem GG {m':Nat}{x:List Int} (hu:aq n m u) (hv:aq n m v) (hx:aq n m' x) (h:m<=m'):Uu n m' (LF o u v x):=by
 cases o
 ·exact Uu.of (aq.up hu h) hx
 ·exact Uu.of hx (aq.up hv h)
theorem uh {o:Bool}{n m:Nat}{rs:List (List Int)}{u v:List Int} (hR:lU n 5 rs) (hu:aq n m u) (hv:aq n m v):∀{i:Nat},i<=n->∀b∈me o rs u v i,(0<b.1/\b.1<=(gK o u v).sum)/\Uu n (m+5) b.2
 | 0,_,b,hb=>by simp[me] at hb
 | i+1,hi,b,hb=>by
  unfold me at hb
  rcases List.mem_append.mp hb with hb|hb
  ·exact uh hR hu hv (by lia) b hb
  ·split at hb
   ·rename_i hp
    rw[List.mem_singleton.mp hb]
    exact ⟨⟨hp,aL (oH hu hv) i⟩,GG hu hv ((oC hu hv).add (hR.at (by lia))) (by lia)⟩
   ·simp at hb
theorem uo (o:Bool) (rs:List (List Int)) (u v:List Int):∀i:Nat,(me o rs u v i).length<=i
 | 0=>i8 _
 | i+1=>by
  unfold me
  rw[v9]
  have:=uo o rs u v i
  split
  ·rw[jP];lia
  ·rw[S5];lia
theorem jB {o:Bool}{n m N E:Nat}{rs:List (List Int)} (hR:lU n 5 rs) (n4:n<=4) (hm:m<=50):∀(T:F7) {D:F7}{B:Nat},KU n m T->bU N E T->KU n (m+5) D->fq D->bU (N*LL) B D ->
  KU n (m+5) (N9 o n rs T D)/\fq (N9 o n rs T D)/\bU (N*LL) (B+E*(4*T.length)) (N9 o n rs T D)/\(N9 o n rs T D).length<=D.length+n*T.length
 | [],D,B,_,_,h1,h2,h3=>⟨h1,h2,h3,by unfold N9;simp⟩
 | p::T,D,B,h,hE,h1,h2,h3=>by
  unfold N9
  have hp:=h p (.head _)
  have hd:=oH (o:=o) hp.one hp.two
  obtain ⟨b1,b2,b3,b4⟩:=jf (W:=Uu n (m+5)) (hE p (.head _)) hd.pos (lh hd n4 hm) (me o rs (p.1.take n) (p.1.drop n) n) (fun b hb=>uh hR hp.one hp.two (i8 n) b hb) h1 h2 h3
  obtain ⟨a1,a2,a3,a4⟩:=jB hR n4 hm T (fun q hq=>h q (.tail _ hq)) (fun q hq=>hE q (.tail _ hq)) b1 b2 b3
  have e:=uo o rs (p.1.take n) (p.1.drop n) n
  refine ⟨a1,a2,a3.mono ?_,?_⟩
  ·have:E*(me o rs (p.1.take n) (p.1.drop n) n).length<=E*4:=L6 _ (by lia)
   rw[A8,V5 4,V5 E];lia
  ·rw[A8,V5,rB];lia
theorem mU (o:Bool) (n:Nat) (rs:List (List Int)) (φ:List Int->Rat):∀(T D:F7),lH (N9 o n rs T D) φ=lH D φ+lH T (fun k=>dC ((me o rs (k.take n) (k.drop n) n).map fun b=>cut b.1 (gK o (k.take n) (k.drop n)).sum*φ b.2))
 | [],D=>by unfold N9;show _=_+0;rw[LY]
 | p::T,D=>by
  unfold N9
  rw[mU o n rs φ T,rT,X2,Rat.add_assoc]
variable {T:F7}
theorem zE (h:fq T) (k:List Int):lH T (ind k)=iM T k:=by
 induction T with
 | nil=>rfl
 | cons p T ih =>
  unfold fq at h
  rw[B7,S4] at h
  rw[X2,ih h.2]
  show p.2*(if p.1=k then 1 else 0)+iM T k=if p.1=k then p.2 else iM T k
  by_cases e:p.1=k
  ·rw[if_pos e,if_pos e,tj (k:=k) T (by rw[<- e];exact h.1),Rat.mul_one,LY]
  ·rw[if_neg e,if_neg e,Rat.mul_zero,LX]
theorem qg {x:Rat}{s:Int}{k:List Int}:∀{bs:List (Int × List Int)}{D:F7},((∃b∈bs,b.2=k) ∨ k∈D.map (·.1))->k∈(Q6 x s bs D).map (·.1)
 | [],D,h=>by
  rcases h with ⟨b,hb,_⟩|h
  ·simp at hb
  ·exact h
 | b::bs,D,h=>by
  unfold Q6
  have key:∀(D:F7) (y:Rat) (j:List Int),(j=b.2 ∨ j∈D.map (·.1))->j∈(bw D b.2 y).map (·.1):=fun D y j=>by
   induction D with
   | nil=>intro hj;unfold bw;simpa using hj
   | cons p D ih =>
    intro hj
    unfold bw
    by_cases e:p.1=b.2
    ·rw[if_pos e]
     rcases hj with rfl|hj
     ·simp[e]
     ·simpa using hj
    ·rw[if_neg e,B7,B6]
     rcases hj with rfl|hj
     ·exact .inr (ih (.inl rfl))
     ·rw[B7,B6] at hj
      exact hj.imp id fun z=>ih (.inr z)
  refine qg ?_
  rcases h with ⟨c,hc,e⟩|h
  ·rcases List.mem_cons.mp hc with rfl|hc
   ·exact .inr (key D _ k (.inl e.symm))
   ·exact .inl ⟨c,hc,e⟩
  ·exact .inr (key D _ k (.inr h))
theorem mT {o:Bool}{n:Nat}{rs:List (List Int)}{k:List Int}:∀{T D:F7},k∈(N9 o n rs T D).map (·.1) ↔ (∃p∈T,∃b∈me o rs (p.1.take n) (p.1.drop n) n,b.2=k) ∨ k∈D.map (·.1)
 | [],D=>by unfold N9;simp
 | p::T,D=>by
  unfold N9
  rw[mT]
  constructor
  ·rintro (⟨q,hq,r⟩|h)
   ·exact .inl ⟨q,.tail _ hq,r⟩
   ·obtain ⟨z,hz,e⟩:=List.mem_map.mp h
    rcases ij hz with ⟨b,hb,e2⟩|⟨r,hr,e2⟩
    ·exact .inl ⟨p,.head _,b,hb,by rw[<- e,e2]⟩
    ·exact .inr (List.mem_map.mpr ⟨r,hr,by rw[e2,e]⟩)
  ·rintro (⟨q,hq,r⟩|h)
   ·rcases List.mem_cons.mp hq with rfl|hq
    ·exact .inr (qg (.inl r))
    ·exact .inl ⟨q,hq,r⟩
   ·exact .inr (qg (.inr h))
variable {rs:List (List Int)}
theorem yf {N E:Nat}{U:F7} (hR:lU n 5 rs) (n4:n<=4) (hm:m<=50) (hT:KU n m T) (hE:bU N E T) (p:U.Perm T):(N9 o n rs U []).Perm (N9 o n rs T []):=by
 have hU:KU n m U:=fun q hq=>hT q (p.mem_iff.mp hq)
 have hEU:bU N E U:=fun q hq=>hE q (p.mem_iff.mp hq)
 have z:fq ([]:F7):=by unfold fq;simp
 have n1:=(jB (o:=o) (D:=[]) (B:=0) hR n4 hm T hT hE (fun q hq=>by simp at hq) z (fun q hq=>by simp at hq)).2.1
 have n2:=(jB (o:=o) (D:=[]) (B:=0) hR n4 hm U hU hEU (fun q hq=>by simp at hq) z (fun q hq=>by simp at hq)).2.1
 refine vP n2 n1 (fun k=>?_) fun k=>?_
 ·rw[mT,mT]
  constructor
  ·rintro (⟨q,hq,r⟩|h)
   ·exact .inl ⟨q,p.mem_iff.mp hq,r⟩
   ·exact .inr h
  ·rintro (⟨q,hq,r⟩|h)
   ·exact .inl ⟨q,p.mem_iff.mpr hq,r⟩
   ·exact .inr h
 ·rw[<- zE n2,<- zE n1,mU,mU,AN p]
noncomputable def sg (o:Bool) (n:Nat) (k:List Int):List Int:=bif o then k.drop n++k.take n else k
noncomputable def pA (o:Bool) (n:Nat) (T:F7):F7:=T.map fun p=>(sg o n p.1,p.2)
theorem GS {a b:List Int} (ha:Uu n m a) (hb:Uu n m b) (e:sg o n a=sg o n b):a=b:=by
 cases o
 ·exact e
 ·have e:a.drop n++a.take n=b.drop n++b.take n:=e
  have e1:=congrArg (aJ n) e
  have e2:=congrArg (aK n) e
  rw[(W9 ha.two.len).1,(W9 hb.two.len).1] at e1
  rw[(W9 ha.two.len).2,(W9 hb.two.len).2] at e2
  rw[<- D1 n a,<- D1 n b,e1,e2]
theorem DW {o:Bool}{n m:Nat}{k:List Int}{x:Rat} (hk:Uu n m k):∀{D:F7},KU n m D->bw (pA o n D) (sg o n k) x=pA o n (bw D k x)
 | [],_=>rfl
 | p::D,h=>by
  show bw ((sg o n p.1,p.2)::pA o n D) _ _=_
  unfold bw
  by_cases e:p.1=k
  ·rw[if_pos e,if_pos (by rw[e])];rfl
  ·rw[if_neg e,if_neg fun z=>e (GS (h p (.head _)) hk z),DW hk fun q hq=>h q (.tail _ hq)];rfl
theorem zo {o:Bool}{n m:Nat}{x:Rat}{s:Int}:∀{bs:List (Int × List Int)}{D:F7},(∀b∈bs,Uu n m b.2)->KU n m D->Q6 x s (bs.map fun b=>(b.1,sg o n b.2)) (pA o n D)=pA o n (Q6 x s bs D)
 | [],D,_,_=>rfl
 | b::bs,D,hb,h=>by
  show Q6 x s (bs.map fun b=>(b.1,sg o n b.2)) (bw (pA o n D) (sg o n b.2) (x*cut b.1 s))=pA o n (Q6 x s bs (bw D b.2 (x*cut b.1 s)))
  rw[DW (hb b (.head _)) h]
  refine zo (fun c hc=>hb c (.tail _ hc)) fun p hp=>?_
  rcases gn hp with e|⟨q,hq,e⟩
  ·rw[e];exact hb b (.head _)
  ·rw[<- e];exact h q hq
theorem FX {o:Bool}{n m:Nat}{rs:List (List Int)}{u v:List Int} (hR:lU n 5 rs) (hu:aq n m u) (hv:aq n m v):∀{i:Nat},i<=n->me o rs u v i=(jT rs (gK o u v) (iI o u v) i).map fun b=>(b.1,sg (!o) n b.2)
 | 0,_=>rfl
 | i+1,hi=>by
  unfold me jT
  rw[FX hR hu hv (by lia),A3]
  congr 1
  by_cases hp:0<(gK o u v).getD i 0
  ·rw[if_pos hp,if_pos hp]
   have l:(U3 (iI o u v) (rs.getD i [])).length=n:=((oC (o:=o) hu hv).add (hR.at (by lia))).len
   have:LF o u v (U3 (iI o u v) (rs.getD i []))=sg (!o) n (U3 (iI o u v) (rs.getD i [])++gK o u v):=by
    cases o
    ·show u++_=aK n _++aJ n _
     rw[(W9 l).1,(W9 l).2];rfl
    ·rfl
   rw[this];rfl
  ·rw[if_neg hp,if_neg hp];rfl
theorem zC {o:Bool}{n m:Nat}{rs:List (List Int)} (hR:lU n 5 rs):∀{T D:F7},KU n m T->KU n (m+5) D->N9 o n rs T (pA (!o) n D)=pA (!o) n (S8 n rs (pA o n T) D)
 | [],D,_,_=>rfl
 | p::T,D,h,hD=>by
  have hp:=h p (.head _)
  have e1:(sg o n p.1).take n=gK o (p.1.take n) (p.1.drop n):=by
   cases o
   ·rfl
   ·exact (W9 hp.two.len).1
  have e2:(sg o n p.1).drop n=iI o (p.1.take n) (p.1.drop n):=by
   cases o
   ·rfl
   ·exact (W9 hp.two.len).2
  show N9 o n rs T (Q6 p.2 _ (me o rs (p.1.take n) (p.1.drop n) n) (pA (!o) n D))=pA (!o) n (S8 n rs (pA o n T) (Q6 p.2 ((sg o n p.1).take n).sum (jT rs ((sg o n p.1).take n) ((sg o n p.1).drop n) n) D))
  have hb:∀b∈jT rs (gK o (p.1.take n) (p.1.drop n)) (iI o (p.1.take n) (p.1.drop n)) n,Uu n (m+5) b.2:=fun b hb=>(oA hR (oH hp.one hp.two) (oC hp.one hp.two) (i8 n) b hb).2.1
  rw[e1,e2,FX hR hp.one hp.two (i8 n),zo hb hD]
  refine zC hR (fun q hq=>h q (.tail _ hq)) fun q hq=>?_
  rcases ij hq with ⟨b,hb',e⟩|⟨r,hr,e⟩
  ·rw[e];exact hb b hb'
  ·rw[<- e];exact hD r hr
theorem JU {k:List Int} (h:Uu n m k):sg o n (sg o n k)=k:=by
 cases o
 ·rfl
 ·show aK n (k.drop n++k.take n)++aJ n (k.drop n++k.take n)=k
  rw[(W9 h.two.len).1,(W9 h.two.len).2,D1]
theorem ze {o:Bool}{n m:Nat}:∀{T:F7},KU n m T->pA o n (pA o n T)=T
 | [],_=>rfl
 | p::T,h=>by
  show (sg o n (sg o n p.1),p.2)::pA o n (pA o n T)=p::T
  rw[JU (h p (.head _)),ze fun q hq=>h q (.tail _ hq)]
noncomputable def odd (k:Nat):Bool:=decide (k % 2=1)
theorem vh (n:Nat) (rs:List (List Int)) (k:Nat) (u v:List Int):tw n rs k u v=pA (odd k) n (mf n rs k [(u++v,1)]):=by
 unfold tw odd
 by_cases h:k % 2=1
 ·rw[if_pos h,decide_eq_true h];rfl
 ·rw[if_neg h,decide_eq_false h]
  unfold pA sg
  exact (Lz _).symm
theorem Dn (k:Nat):odd (k+1)=!odd k:=by
 unfold odd
 by_cases h:k % 2=1
 ·rw[decide_eq_true h,decide_eq_false (by lia)];rfl
 ·rw[decide_eq_false h,decide_eq_true (by lia)];rfl
theorem xE (h:KU n m T):KU n m (pA o n T):=by
 cases o
 ·intro p hp
  obtain ⟨q,hq,rfl⟩:=List.mem_map.mp hp
  exact h q hq
 ·exact Cg h
theorem zf {N E:Nat}(h:bU N E T):bU N E (pA o n T):=fun p hp=>by
 obtain ⟨q,hq,rfl⟩:=List.mem_map.mp hp
 exact h q hq
theorem EL {k:Nat}(hR:lU n 5 rs) (n4:n<=4) (hu:aq n 20 u) (hv:aq n 20 v) (hk:k<=3) (p:T.Perm (tw n rs k u v)):(N9 (odd k) n rs T []).Perm (tw n rs (k+1) u v):=by
 obtain ⟨w1,w2,w3,w4⟩:=qm hR n4 hu hv k (by lia)
 rw[vh] at p
 have h:=yf (o:=odd k) hR n4 (m:=20+5*k) (by lia) (xE w1) (zf w3) p
 have e:=zC (o:=odd k) (D:=[]) hR (xE (o:=odd k) w1) (fun q hq=>by simp at hq)
 rw[ze w1] at e
 have e':N9 (odd k) n rs (pA (odd k) n (mf n rs k [(u++v,1)])) []=tw n rs (k+1) u v:=by
  rw[vh,Dn]
  exact e
 rw[e'] at h
 exact h
theorem vi {k:Nat}(hR:lU n 5 rs) (n1:1<=n) (n4:n<=4) (hu:aq n 20 u) (hv:aq n 20 v) (hk:k<=4):KU n (20+5*k) (tw n rs k u v)/\fq (tw n rs k u v)/\bU (LL ^ k) (4 ^ (k*k)) (tw n rs k u v)/\(tw n rs k u v).length<128:=by
 obtain ⟨w1,w2,w3,w4⟩:=qm hR n4 hu hv k (by lia)
 have l:=zU hR n1 n4 hu hv hk
 refine ⟨by rw[vh];exact xE w1,?_,by rw[vh];exact zf w3,by rw[vh];unfold pA;rw[d6];exact l⟩
 unfold tw
 split
 ·exact Cf w1 w2
 ·exact w2
noncomputable def RK (n:Nat) (H:Hp):F7->List Addr->Prop:=ee fun p a=>∃c d,H a=some (.tup [.ref c,.ref d])/\H c=some (.tup ((p.1.take n).map V.int))/\H d=some (.tup ((p.1.drop n).map V.int))
variable {H:Hp}
theorem QP.rk {xs:PX} (h:QP n H T xs):RK n H T (xs.map (·.2.1)):=by
 induction h with
 | nil=>exact .nil
 | @cons p x T xs r t ih =>
  obtain ⟨e,⟨c,d,h1,h2,h3⟩,_⟩:=r
  rw[e] at h2 h3
  refine .cons ⟨c,d,h1,?_,?_⟩ ih
  ·rw[h2];show some (HO.tup ((kI _).map kV))=_;rw[fK]
  ·rw[h3];show some (HO.tup ((kI _).map kV))=_;rw[fK]
variable {as:List Addr}
theorem RK.keys (h:RK n H T as):(as.map fun a=>BA H a++Bz H a)=T.map (·.1):=by
 induction h with
 | nil=>rfl
 | @cons p a T as r t ih =>
  obtain ⟨c,d,h1,h2,h3⟩:=r
  obtain ⟨e1,e2⟩:=rV h1 h2 h3
  rw[B7,B7,ih,e1,e2,D1]
theorem RK.trs (h:RK n H T as) (hk:KU n m T) (hn:fq T):Iz H as n (BA H) (Bz H):=by
 have key:∀a∈as,∃p∈T,∃c d,H a=some (.tup [.ref c,.ref d])/\H c=some (.tup ((p.1.take n).map V.int))/\H d=some (.tup ((p.1.drop n).map V.int)):=by
  clear hk hn
  induction h with
  | nil=>exact fun _ z=>nomatch z
  | @cons p a T as r t ih =>
   intro x hx
   rcases List.mem_cons.mp hx with e|hx
   ·rw[e];exact ⟨p,.head _,r⟩
   ·obtain ⟨p',hp',r'⟩:=ih x hx
    exact ⟨p',.tail _ hp',r'⟩
 refine ⟨fun a ha=>?_,fun a ha=>?_,by rw[h.keys];exact hn⟩
 ·obtain ⟨p,_,c,d,h1,h2,h3⟩:=key a ha
  obtain ⟨e1,e2⟩:=rV h1 h2 h3
  rw[e1,e2]
  exact ⟨c,d,_,h1,h2,h3⟩
 ·obtain ⟨p,hp,c,d,h1,h2,h3⟩:=key a ha
  rw[(rV h1 h2 h3).1]
  exact (hk p hp).one.len
theorem RK.sorted {as':List Addr} (h:RK n H T as) (p:as'.Perm as) (o:as'.Pairwise (fun a b=>HT.P4 (BA H b++Bz H b) (BA H a++Bz H a)=false)):∃T':F7,T'.Perm T/\qu T'/\RK n H T' as':=by
 obtain ⟨T',pT,h'⟩:=nM h p
 refine ⟨T',pT,?_,h'⟩
 unfold qu
 rw[<- RK.keys h',gR]
 exact o
theorem QP.at_ {xs:PX}{p:List Int × Rat} (h:QP n H T xs) (hn:fq T) (hp:p∈T):∃q,zY xs (kP n p.1)=some q/\H q=some (.tup ((fr p.2).map V.int)):=by
 induction h with
 | nil=>simp at hp
 | @cons p0 x T xs r t ih =>
  unfold fq at hn
  rw[B7,S4] at hn
  unfold zY
  rw[rC]
  rcases List.mem_cons.mp hp with e|hp'
  ·subst e
   rw[decide_eq_true r.1]
   exact ⟨_,rfl,r.2.2⟩
  ·have ne:¬ p0.1=p.1:=fun z=>hn.1 (by rw[z];exact List.mem_map.mpr ⟨p,hp',rfl⟩)
   rw[decide_eq_false (fun z=>ne (qh (r.1.symm.trans z)))]
   exact ih hn.2 hp'
end M8
namespace G
open PySem PySem.Spec PyProof.Rows L2 Mt Md Mq M8 HP
theorem DV {α:Type}{x y:α}{t:Nat}:FD [x,y] ((t:Int) % 2)=some (bif odd t then y else x):=by
 unfold odd
 by_cases h:t % 2=1
 ·rw[decide_eq_true h,show (t:Int) % 2=1 by lia];rfl
 ·rw[decide_eq_false h,show (t:Int) % 2=0 by lia];rfl
section
variable {P:j6}{w:r9}{K:m9}{mg:Str->Option b9}{base:Heap}{f:Addr}{fd:D6}{ec:Nat->Addr}{Bs:Addr}
noncomputable def Cm:Sp:=fun vs H Q _=>∃(a b st:Addr) (v:V) (n k:Nat) (us ws:List Int) (rs:List (List Int)),vs=[.ref a,.ref b,v,.int k]/\H a=some (.tup (us.map V.int))/\H b=some (.tup (ws.map V.int))/\Mt.aq n 20 us/\Mt.aq n 20 ws/\Dt st H (DR rs) v/\Mt.lU n 5 rs/\1<=n/\n<=4/\k<=4 /\
 ∀D as T' H',H D=none->i7 H H'->T'.Perm (tw n rs k us ws)->qu T'->H' D=some (.lst (as.map V.ref))->R3 n H' T' as->Q (.ref D) H'
noncomputable abbrev GY:Stmt:=fE 58
theorem fH:D9 ["_law_one","_law_other","_law_rule_here","_law_draws","_law_here","_law_turn","_law_found","_law_first","_law_second","_law_odds","_law_drawn","_law_put","_law_kind","_law_more","_law_there","_law_part"] ["_law_one","_law_other","_law_rule_here","_law_draws"] (A1 GY):=⟨rfl,rfl,rfl,by decide +kernel,rfl,by decide +kernel,by decide +kernel⟩
theorem Ky (F:bT K "_law_pairs" "_law_pairs" GY f fd) (B:Bt mg) (B3:LK mg) (c1:V4 P w K mg base 2 "_law_by" ["_law_one","_law_other"] dD) (c2:V4 P w K mg base 1 "_law_fraction" ["_law_top","_law_bottom"] mG) (c3:V4 P w K mg base 2 "_law_plus" ["_law_one","_law_other"] fF):N0 P w K mg base dI 3 f fd ["_law_one","_law_other","_law_rule_here","_law_draws"] Cm:=by
 refine F.ok fH (fun vs H Q E h=>?_) (fun cdv A outer s H vs Q E hr h=>?_)
 ·refine fS fun R k_=>?_
  obtain ⟨a,b,st,v,n,k,us,ws,rs,rfl,_⟩:=h
  refine k_ ?_
  rfl
 refine fS fun R k_=>?_
 obtain ⟨a,b,st,v,n,k,us,ws,rs,rfl,ha,hb,hU,hV,hv,hR,n1,n4,k4,q⟩:=h
 refine k_ ?_
 refine ⟨_,(@m7 _ _ _ _ _ (@F9 _ _ 4 _ _ _ _ fH.nd rfl (A2 rfl) (@N8 _ _ _ _ (@b7 _ _ _ _ _ (@D3 _ _ _ _ _ (@b7 _ _ _ _ _ (pv 0) (@b7 _ _ _ _ _ (pv 1) (@b7 _ _ _ _ _ (@D3 _ _ _ _ _ (@b7 _ _ _ _ _ j0 (@b7 _ _ _ _ _ j0 d8 (by rfl)) (by rfl))) d8 (by rfl)) (by rfl)) (by rfl))) d8 (by rfl))) (by rfl) (by first|exact .inl rfl|exact .inr rfl))
  (@m7 _ _ _ _ _ (cO J7 rfl (P2 rfl B.range (@b7 _ _ _ _ _ (pv 3) d8 (by rfl))) (T7 (i:=5) fH.nd rfl (A2 rfl))
  (@m7 _ _ _ _ _ (@F9 _ _ 6 _ _ _ _ fH.nd rfl (gH rfl) zt (by rfl) (by first|exact .inl rfl|exact .inr rfl))
  (@m7 _ _ _ _ _ (cO J7 rfl (dc (pv 4)) (mO rfl (G0 (T7 (i:=7) fH.nd rfl (A2 rfl)) (G0 (T7 (i:=8) fH.nd rfl (A2 rfl)) (G0 (T7 (i:=9) fH.nd rfl (A2 rfl)) Z3))))
  (@m7 _ _ _ _ _ (pM (@G4 _ _ _ _ _ _ _ R8 (@N8 _ _ _ _ (@b7 _ _ _ _ _ (@D3 _ _ _ _ _ (@b7 _ _ _ _ _ (pv 7) (@b7 _ _ _ _ _ (pv 8) d8 (by rfl)) (by rfl))) (@b7 _ _ _ _ _ (@D3 _ _ _ _ _ (@b7 _ _ _ _ _ (pv 8) (@b7 _ _ _ _ _ (pv 7) d8 (by rfl)) (by rfl))) d8 (by rfl)) (by rfl))) (@D5 _ _ _ _ _ _ _ _ dS (pv 5) j0) (fun _ _=>rfl)) (mO rfl (G0 (T7 (i:=10) fH.nd rfl (A2 rfl)) (G0 (T7 (i:=11) fH.nd rfl (A2 rfl)) Z3))))
  (@t6 _ _ _ (cO J7 rfl (P2 rfl B.range (@b7 _ _ _ _ _ (u5 D8 rfl B.len C8 (@b7 _ _ _ _ _ (pv 10) d8 (by rfl))) d8 (by rfl))) (T7 (i:=12) fH.nd rfl (gH rfl))
  (@t6 _ _ _ (V6 (@R7 _ _ _ _ _ _ _ _ rO (@G4 _ _ _ _ _ _ _ L7 (pv 10) (pv 12) (fun _ _=>rfl)) j0 (O8 _)) (@m7 _ _ _ _ _ (@F9 _ _ 13 _ _ _ _ fH.nd rfl (A2 rfl) (G7 L5 rfl B.tuple J6 (@b7 _ _ _ _ _ (N4 (N:=["_law_at","_law_many","_law_rule_here","_law_kind"]) (ix:=[none,none,some 2,some 12]) (ifs:=[]) (tc:=S1) rfl (vO rfl B3.enumerate (@b7 _ _ _ _ _ (pv 11) d8 (by rfl)))
   (fun s H ex=>qX (K:=K) (n:=2) rfl rfl (G0 (aj (i:=0) (by decide +kernel) rfl (A2 rfl) (.inr rfl)) (G0 (aj (i:=1) (by decide +kernel) rfl (A2 rfl) (.inr rfl)) Z3))) (fun s H ex=>M4) (fun s H ex=>(@D5 _ _ _ _ _ _ _ _ Z5 (pv 1) (@G4 _ _ _ _ _ _ _ (LG (K:=K) rfl) (@G4 _ _ _ _ _ _ _ (LG (K:=K) rfl) (pv 2) (pv 3) (fun _ _=>rfl)) (pv 0) (fun _ _=>rfl)))) rfl (by decide +kernel) (by rfl) (by rfl) (fun _=>rfl)) d8 (by rfl))) (by rfl) (by first|exact .inl rfl|exact .inr rfl))
  (@m7 _ _ _ _ _ (@F9 _ _ 14 _ _ _ _ fH.nd rfl (A2 rfl) (@G4 _ _ _ _ _ _ _ R8 (@N8 _ _ _ _ (@b7 _ _ _ _ _ (@D3 _ _ _ _ _ (@b7 _ _ _ _ _ (pv 7) (@b7 _ _ _ _ _ (pv 13) d8 (by rfl)) (by rfl))) (@b7 _ _ _ _ _ (@D3 _ _ _ _ _ (@b7 _ _ _ _ _ (pv 13) (@b7 _ _ _ _ _ (pv 8) d8 (by rfl)) (by rfl))) d8 (by rfl)) (by rfl))) (@D5 _ _ _ _ _ _ _ _ dS (pv 5) j0) (fun _ _=>rfl)) (by rfl) (by first|exact .inl rfl|exact .inr rfl))
  (@m7 _ _ _ _ _ (@F9 _ _ 15 _ _ _ _ fH.nd rfl (A2 rfl) (B9 c1 hr rfl (@b7 _ _ _ _ _ (pv 9) (@b7 _ _ _ _ _ (B9 (c2.up (by decide)) hr rfl (@b7 _ _ _ _ _ (@G4 _ _ _ _ _ _ _ L7 (pv 10) (pv 12) (fun _ _=>rfl)) (@b7 _ _ _ _ _ (u5 (cu rfl) rfl B.sum Ag (@b7 _ _ _ _ _ (pv 10) d8 (by rfl))) d8 (by rfl)) (by rfl))) d8 (by rfl)) (by rfl))) (by rfl) (by first|exact .inl rfl|exact .inr rfl))
  (@t6 _ _ _ (zq (Jk hr) (pv 6) (pv 14) (B9 c3 hr rfl (@b7 _ _ _ _ _ (vQ (Jk hr) (pv 6) (pv 14) (@D3 _ _ _ _ _ (@b7 _ _ _ _ _ j0 (@b7 _ _ _ _ _ j0 d8 (by rfl)) (by rfl))) ⟨rfl,rfl,rfl,rfl⟩) (@b7 _ _ _ _ _ (pv 15) d8 (by rfl)) (by rfl))) rfl))))) K9))))))
  (@t6 _ _ _ (jg (N:=["_law_pair","_law_found"]) (ix:=[none,some 6]) (ifs:=[]) (tc:=S1) (i:=4) rfl fH.nd rfl rfl  (dc (u5 (yJ rfl hr.units) rfl B3.sorted jr (@b7 _ _ _ _ _ (pv 6) d8 (by rfl))))
   (fun s H ex=>aj (i:=0) (by decide +kernel) rfl (A2 rfl) (.inr rfl)) (fun s H ex=>M4) (fun s H ex=>(@D3 _ _ _ _ _ (@b7 _ _ _ _ _ (@G4 _ _ _ _ _ _ _ (LG (K:=K) rfl) (pv 0) j0 (fun _ _=>rfl)) (@b7 _ _ _ _ _ (@G4 _ _ _ _ _ _ _ (LG (K:=K) rfl) (pv 0) j0 (fun _ _=>rfl)) (@b7 _ _ _ _ _ (CT (P:=P) (w:=w) rfl rfl (Jk hr) (pv 1) (pv 0) (fun _ _=>rfl)) d8 (by rfl)) (by rfl)) (by rfl)))) rfl (by decide +kernel) (by rfl) (by rfl) (fun _=>rfl) (by rfl))))))
  (@t6 _ _ _ (D7 (pv 4))))),?_⟩
 have ndt:∀a ps ys,N6 P w a ps≠.tup ys:=fun _ _ _ z=>by unfold N6 at z;cases z
 refine ⟨_,rfl,_,rfl,(by show 2<=i6;decide),fun p1 hp1=>⟨(by show 3<=i6;decide),fun p2 hp2=>⟨(by show 1<=i6;decide),fun p3 hp3=>?_⟩⟩⟩
 have g1:i7 H (n5 H p1 (.tup [.int 1,.int 1])):=i7.new hp1
 have g2:i7 (n5 H p1 (.tup [.int 1,.int 1])) _:=i7.new (o:=.tup [.ref a,.ref b,.ref p1]) hp2
 have g3:=i7.new (o:=.lst [.ref p2]) hp3
 have gg:=(g1.trans g2).trans g3
 have h2:=g3 _ _ (f7 (H:=n5 H p1 (.tup [.int 1,.int 1])) (a:=p2) (o:=.tup [.ref a,.ref b,.ref p1]))
 have h1:=(g2.trans g3) _ _ (f7 (H:=H) (a:=p1) (o:=.tup [.int 1,.int 1]))
 have h3:=f7 (H:=n5 (n5 H p1 (.tup [.int 1,.int 1])) p2 (.tup [.ref a,.ref b,.ref p1])) (a:=p3) (o:=.lst [.ref p2])
 have hn3:H p3=none:=g1.free (g2.free hp3)
 obtain ⟨et,ed⟩:=W9 (v:=ws) hU.len
 try dsimp -proj only
 generalize n5 (n5 (n5 H p1 (.tup [.int 1,.int 1])) p2 (.tup [.ref a,.ref b,.ref p1])) p3 (.lst [.ref p2])=H0 at *
 have r0:R3 n H0 [(us++ws,1)] [p2]:=.cons ⟨a,b,p1,h2,by show H0 a=some (.tup (((us++ws).take n).map V.int));rw[et];exact gg _ _ ha,by show H0 b=some (.tup (((us++ws).drop n).map V.int));rw[ed];exact gg _ _ hb,h1⟩ .nil
 refine ⟨_,rfl,(k:Int),rfl,by lia,by lia,?_⟩
 refine eQ (lo:=0) (n:=k) (fun t σ H3=>i7 H H3/\t<=k/\∃l as T o5 o6 o7 o8 o9 o10 o11 o12 o13 o14 o15,H l=none/\H3 l=some (.lst (as.map V.ref))/\R3 n H3 T as/\T.Perm (tw n rs t us ws)/\qu T/\σ=[some (.ref a),some (.ref b),some v,some (.int k),some (.ref l),o5,o6,o7,o8,o9,o10,o11,o12,o13,o14,o15])
  ⟨gg,u9 _,p3,[p2],[(us++ws,1)],none,none,none,none,none,none,none,none,none,none,none,hn3,h3,r0,.refl _,xp _ _,rfl⟩ (fun t σ H3 ht h=>?_) (fun σ H3 h=>?_)
 ·refine fS fun R k_=>?_
  obtain ⟨g3,htk,l,as,T,o5,o6,o7,o8,o9,o10,o11,o12,o13,o14,o15,hln,hl3,hr3,pT,oT,rfl⟩:=h
  refine k_ ?_
  refine fS fun R k_=>?_
  obtain ⟨w1,w2,w3,w4⟩:=vi (k:=t) hR n1 n4 hU hV (by lia)
  refine k_ ?_
  have hK:KU n (20+5*t) T:=fun p hp=>w1 p (pT.mem_iff.mp hp)
  have hE:bU (LL ^ t) (4 ^ (t*t)) T:=fun p hp=>w3 p (pT.mem_iff.mp hp)
  have hTl:T.length<128:=by rw[pT.length_eq];exact w4
  have hN0:=lW t
  have hN:LL ^ t<=2 ^ 1600:=n6 (uH t) (C6 (by decide) (by lia))
  have hEn:4 ^ (t*t)<=2 ^ 60:=by
   have:t*t<=4*4:=C7 (by lia) (by lia)
   exact n6 (C6 (by decide) this) (by decide)
  generalize LL ^ t=N at hE hN0 hN
  generalize 4 ^ (t*t)=En at hE hEn
  have hal:as.length=T.length:=(U0 hr3).symm
  refine Jh fun D_ n_ _=>?_
  intro lt hlt
  have gb:i7 H3 (n5 H3 lt (N6 P w lt [])):=i7.new hlt
  have hlb:n5 H3 lt (N6 P w lt []) lt=some (N6 P w lt []):=f7
  refine ⟨_,rfl,l,rfl,⟨_,.of (gb _ _ hl3)⟩,?_⟩
  obtain ⟨Hb,eHb⟩:∃Hb,Hb=n5 H3 lt (N6 P w lt []):=⟨_,rfl⟩
  rw[<- eHb] at gb hlb
  have nll:l≠lt:=v5 hl3 hlt
  refine lO (K:=K) (a:=l) (xs:=as.map V.ref) (fun i σ H4=>Kp lt Hb H4/\(∃ys,H4 lt=some (N6 P w lt ys)/\QP n H4 (N9 (odd t) n rs (T.take i) []) ys)/\i<=T.length/\∃o7 o8 o9 o10 o11 o12 o13 o14 o15,σ=[some (.ref a),some (.ref b),some v,some (.int k),some (.ref l),some (.int t),some (.ref lt),o7,o8,o9,o10,o11,o12,o13,o14,o15])
   ⟨by rw[eHb];exact Kp.refl _ _,⟨[],by rw[<- hlb,eHb];rfl,.nil⟩,u9 _,o7,o8,o9,o10,o11,o12,o13,o14,o15,by simp⟩ (fun i σ H4 _ h=>.of (h.1 _ _ nll (gb _ _ hl3))) (fun i x σ H4 hx h=>?_) (fun σ H4 h=>?_)
  ·refine fS fun R k_=>?_
   obtain ⟨k4',⟨ys4,hl4,hq4⟩,hi,o7,o8,o9,o10,o11,o12,o13,o14,o15,rfl⟩:=h
   refine k_ ?_
   have hil:i<T.length:=by have:=(List.getElem?_eq_some_iff.mp hx).1;rw[d6,hal] at this;exact this
   refine fS fun R k_=>?_
   obtain ⟨xa,hxa,c,e,qq,hx1,hx2,hx3,hx4⟩:=Paired.get hr3 (f6 hil)
   refine k_ ?_
   rw[A4,hxa] at hx
   cases hx
   generalize hum:T[i]=um at hx2 hx3 hx4
   have hmem:um∈T:=by rw[<- hum];exact K0 hil
   have hum':T[i]?=some um:=by rw[f6 hil,hum]
   obtain ⟨kk,mm⟩:=um
   have hku:=hK (kk,mm) hmem
   have hmm:Vq N En mm:=hE (kk,mm) hmem
   obtain ⟨uu,euu⟩:∃uu,uu=kk.take n:=⟨_,rfl⟩
   obtain ⟨vv,evv⟩:∃vv,vv=kk.drop n:=⟨_,rfl⟩
   have hUu:aq n (20+5*t) uu:=by rw[euu];exact hku.one
   have hVv:aq n (20+5*t) vv:=by rw[evv];exact hku.two
   have t34:∀a ys,H3 a=some (.tup ys)->H4 a=some (.tup ys):=fun a ys e=>ip hlb (ndt _ _) k4' _ _ (gb _ _ e)
   have hc4:H4 c=some (.tup (uu.map V.int)):=by rw[euu];exact t34 _ _ hx2
   have he4:H4 e=some (.tup (vv.map V.int)):=by rw[evv];exact t34 _ _ hx3
   have hq4':H4 qq=some (.tup ((fr mm).map V.int)):=t34 _ _ hx4
   refine ⟨xa,_,rfl,.of (t34 _ _ hx1),rfl,_,_,rfl,_,_,rfl,_,_,rfl,rfl,?_⟩
   refine nmD fun D_ n_ _=>?_
   refine ⟨_,rfl,_,rfl,(by show 2<=i6;decide),fun p1 hp1=>⟨_,rfl,_,rfl,(by show 2<=i6;decide),fun p2 hp2=>⟨(by show 2<=i6;decide),fun p3 hp3=>?_⟩⟩⟩
   have g5:i7 H4 (n5 H4 p1 (.tup [.ref c,.ref e])):=i7.new hp1
   have g6:=i7.new (o:=.tup [.ref e,.ref c]) hp2
   have g7:=i7.new (o:=.lst [.ref p1,.ref p2]) hp3
   have g47:=(g5.trans g6).trans g7
   have hq1:=(g6.trans g7) _ _ (f7 (H:=H4) (a:=p1) (o:=.tup [.ref c,.ref e]))
   have hq2:=g7 _ _ (f7 (H:=n5 H4 p1 (.tup [.ref c,.ref e])) (a:=p2) (o:=.tup [.ref e,.ref c]))
   have hq3:=f7 (H:=n5 (n5 H4 p1 (.tup [.ref c,.ref e])) p2 (.tup [.ref e,.ref c])) (a:=p3) (o:=.lst [.ref p1,.ref p2])
   try dsimp -proj only
   generalize n5 (n5 (n5 H4 p1 (.tup [.ref c,.ref e])) p2 (.tup [.ref e,.ref c])) p3 (.lst [.ref p1,.ref p2])=H5 at *
   obtain ⟨pa,dr,pu,epa,hpa,hdr,hpu⟩:∃pa dr pu,(bif odd t then V.ref p2 else V.ref p1)=.ref pa/\H5 pa=some (.tup [.ref dr,.ref pu])/\H5 dr=some (.tup ((gK (odd t) uu vv).map V.int))/\H5 pu=some (.tup ((iI (odd t) uu vv).map V.int)):=by
    cases odd t
    ·exact ⟨p1,c,e,rfl,hq1,g47 _ _ hc4,g47 _ _ he4⟩
    ·exact ⟨p2,e,c,rfl,hq2,g47 _ _ he4,g47 _ _ hc4⟩
   refine ⟨_,rfl,_,_,rfl,rfl,(show (0:Int)<2 by decide),p3,_,_,_,rfl,rfl,.of hq3,DV,?_⟩
   rw[epa]
   refine ⟨pa,_,rfl,.of hpa,rfl,_,_,rfl,_,_,rfl,rfl,?_⟩
   have hD:=oH (o:=odd t) hUu hVv
   have hF:=oC (o:=odd t) hUu hVv
   refine fS fun R k_=>?_
   obtain ⟨kk1,kk2,kk3,kk4⟩:=jB (o:=odd t) (D:=[]) (B:=0) hR n4 (by lia) (T.take i) (fun q hq=>hK q (C9 hq)) (fun q hq=>hE q (C9 hq)) (fun p hp=>by simp at hp) (by unfold fq;simp) (fun p hp=>by simp at hp)
   refine k_ ?_
   have hti:(T.take i).length<=128:=by rw[y7];lia
   have hle:(N9 (odd t) n rs (T.take i) []).length<=4*128:=n6 kk4 (by rw[S5,U7];exact C7 n4 hti)
   have hs0:=hD.pos
   have hs1:=lh hD n4 (by lia)
   have k5:Kp lt Hb H5:=k4'.trans (g47.kp lt)
   have hl5:=g47 _ _ hl4
   have hq5:QP n H5 (N9 (odd t) n rs (T.take i) []) ys4:=hq4.mono fun a zs e=>g47 _ _ e
   refine ⟨_,rfl,dr,_,rfl,.inr (.of hdr),(n:Int),by rw[d6,hD.len],by lia,by lia,?_⟩
   refine eQ (lo:=0) (n:=n) (fun j σ H6=>Kp lt H5 H6/\(∃ys,H6 lt=some (N6 P w lt ys)/\QP n H6 (Q6 mm (gK (odd t) uu vv).sum (me (odd t) rs uu vv j) (N9 (odd t) n rs (T.take i) [])) ys)/\j<=n/\∃o12 o13 o14 o15,σ=[some (.ref a),some (.ref b),some v,some (.int k),some (.ref l),some (.int t),some (.ref lt),some (.ref c),some (.ref e),some (.ref qq),some (.ref dr),some (.ref pu),o12,o13,o14,o15])
    ⟨Kp.refl _ _,⟨ys4,hl5,hq5⟩,u9 _,o12,o13,o14,o15,rfl⟩ (fun j σ H6 hj h=>?_) (fun σ H6 h=>?_)
   ·refine fS fun R k_=>?_
    obtain ⟨k6,⟨ys6,hl6,hq6⟩,hjn,o12,o13,o14,o15,rfl⟩:=h
    refine k_ ?_
    have hjn:j<n:=hj
    have t56:=ip hl5 (ndt _ _) k6
    have hdr6:=t56 _ _ hdr
    have hpu6:=t56 _ _ hpu
    have hc6:=t56 _ _ (g47 _ _ hc4)
    have he6:=t56 _ _ (g47 _ _ he4)
    have hf6:=t56 _ _ (g47 _ _ hq4')
    have hdj:((gK (odd t) uu vv).map V.int)[j]?=some (.int ((gK (odd t) uu vv).getD j 0)):=by
     rw[A4,E2]
     have:j<(gK (odd t) uu vv).length:=by rw[hD.len];exact hjn
     rw[f6 this];rfl
    have hv6:Dt lt H6 (DR rs) v:=((uK hlb (hv.kp ((g3.trans gb).kp st))).kp k5).kp k6
    rw[Mi]
    refine Jh fun D_ n_ _=>?_
    refine ⟨_,rfl,_,rfl,dr,_,_,_,rfl,rfl,.of hdr6,E3 hdj,_,_,rfl,rfl,_,rfl,?_⟩
    by_cases hpos:0<(gK (odd t) uu vv).getD j 0
    ·rw[decide_eq_true hpos]
     refine V0 ?_
     refine fS fun R k_=>?_
     obtain ⟨pp1,pp2,pp3,pp4⟩:=jf (W:=Uu n (20+5*t+5)) hmm hs0 hs1 (me (odd t) rs uu vv j) (fun b hb=>uh hR hUu hVv (U8 hjn) b hb) kk1 kk2 kk3
     refine k_ ?_
     have hjt:=uo (odd t) rs uu vv j
     have hlen:(Q6 mm (gK (odd t) uu vv).sum (me (odd t) rs uu vv j) (N9 (odd t) n rs (T.take i) [])).length<=10000:=by lia
     have cv:Vq LL 1 (cut ((gK (odd t) uu vv).getD j 0) (gK (odd t) uu vv).sum):=uA (by lia) (aL hD j) hs0 hs1
     have cb:Bd 12 (cut ((gK (odd t) uu vv).getD j 0) (gK (odd t) uu vv).sum):=Bd.cut hs0 (by have:=aL hD j;show _<=4096;lia) (by show _<=4096;lia)
     have pv':Vq (N*LL) En (mm*cut ((gK (odd t) uu vv).getD j 0) (gK (odd t) uu vv).sum):=(hmm.mul cv).mono (by lia)
     have hNL:N*LL<=2 ^ 1900:=by
      have:(2:Nat) ^ 1900=2 ^ 1600*2 ^ 300:=by rw[<- K7]
      rw[this];exact C7 hN wM
     have hNL0:0<N*LL:=cG hN0 qv
     have big:∀X:Nat,X<=2 ^ 60*2 ^ 13->N*LL*X<=2 ^ 1973:=fun X hX=>by
      have:(2:Nat) ^ 1973=2 ^ 1900*(2 ^ 60*2 ^ 13):=by rw[<- K7,<- K7]
      rw[this];exact C7 hNL hX
     have hNL2:N*LL<=2 ^ 1973:=n6 hNL (C6 (by decide) (by decide))
     have d1:Bd 1660 mm:=hmm.bd hN0 (by
      have:(2:Nat) ^ 1660=2 ^ 1600*2 ^ 60:=by rw[<- K7]
      rw[this];exact C7 hN hEn) (n6 hN (C6 (by decide) (by decide)))
     have d2:Bd 1973 (mm*cut ((gK (odd t) uu vv).getD j 0) (gK (odd t) uu vv).sum):=pv'.bd hNL0 (big _ (n6 hEn (yS _ (by decide)))) hNL2
     obtain ⟨row,erow⟩:∃row,row=rs.getD j []:=⟨_,rfl⟩
     have hrow:DX n 5 row:=by rw[erow];exact hR.at hjn
     obtain ⟨key,ekey⟩:∃key,key=LF (odd t) uu vv (U3 (iI (odd t) uu vv) row):=⟨_,rfl⟩
     have vvq:=pp3.val (k:=key)
     have d3:Bd 1973 (iM (Q6 mm (gK (odd t) uu vv).sum (me (odd t) rs uu vv j) (N9 (odd t) n rs (T.take i) [])) key):=vvq.bd hNL0 (big _ (by
      have e1:0+En*(4*(T.take i).length)+En*(me (odd t) rs uu vv j).length<=En*(2 ^ 13):=by
       rw[U7,<- V5];exact L6 _ (by lia)
      exact n6 e1 (BK _ hEn))) hNL2
     refine fS fun R k_=>?_
     obtain ⟨r,xs,rb,er,hr6,hxr,hrb⟩:=yH hv6 (show j<rs.length by rw[hR.len];exact hjn)
     refine k_ ?_
     rw[<- erow] at hrb
     have hla:(U3 (iI (odd t) uu vv) row).length=n:=(hF.add hrow).len
     have hfl:(iI (odd t) uu vv).length=n:=hF.len
     refine ⟨_,rfl,pu,_,rfl,.of hpu6,?_⟩
     refine DU (K:=K) (a:=pu) (xs:=(iI (odd t) uu vv).map V.int) (sz (by rw[d6];lia)) (fun z zs H7=>i7 H6 H7/\z<=n/\zs=((U3 (iI (odd t) uu vv) row).take z).map V.int) ⟨i7.refl _,u9 _,rfl⟩ (fun z zs H7 h=>?_) (fun z zs H7 _ h=>.of (h.1 _ _ hpu6)) ⟨rfl,rfl⟩ (fun z zs H7 x p7 hx hp7 h=>?_) (fun zs H7 h=>?_)
     ·obtain ⟨_,hz,rfl⟩:=h
      rw[d6,y7];lia
     ·obtain ⟨g7,hz,rfl⟩:=h
      have hzl:z<(iI (odd t) uu vv).length:=by have:=(List.getElem?_eq_some_iff.mp hx).1;rwa [d6] at this
      have hz2:z<row.length:=by rw[hrow.len];lia
      rw[A4,f6 hzl] at hx
      cases hx
      unfold S1
      refine V0 ?_
      have g8:i7 H6 (n5 H7 p7 (.tup [.int z,.int (iI (odd t) uu vv)[z]])):=g7.trans (i7.new hp7)
      have hrz:(row.map V.int)[z]?=some (.int row[z]):=by rw[A4,f6 hz2];rfl
      subst er
      refine ⟨_,rfl,_,rfl,_,rfl,r,_,_,_,rfl,rfl,.of (g8 _ _ hr6),E3 hxr,_,rfl,rb,_,_,_,rfl,rfl,.of (g8 _ _ hrb),E3 hrz,_,_,rfl,rfl,g8,by lia,?_⟩
      have e:(U3 (iI (odd t) uu vv) row)[z]?=some ((iI (odd t) uu vv)[z]+row[z]):=by
       unfold U3;rw[jQ,f6 hzl,f6 hz2]
      rw[D2,e,A3];rfl
     ·obtain ⟨g7,hz,rfl⟩:=h
      intro p8 hp8
      refine ⟨p8,_,rfl,.inl ⟨.of f7,fun p9 hp9=>?_⟩⟩
      have eful:((U3 (iI (odd t) uu vv) row).take ((iI (odd t) uu vv).map V.int).length).map V.int=(U3 (iI (odd t) uu vv) row).map V.int:=by rw[d6,hfl,<- hla,D4]
      have g9:=g7.trans ((i7.new (o:=.lst (((U3 (iI (odd t) uu vv) row).take ((iI (odd t) uu vv).map V.int).length).map V.int)) hp8).trans (i7.new (o:=.tup (((U3 (iI (odd t) uu vv) row).take ((iI (odd t) uu vv).map V.int).length).map V.int)) hp9))
      have h99:=f7 (H:=n5 H7 p8 (.lst (((U3 (iI (odd t) uu vv) row).take ((iI (odd t) uu vv).map V.int).length).map V.int))) (a:=p9) (o:=.tup (((U3 (iI (odd t) uu vv) row).take ((iI (odd t) uu vv).map V.int).length).map V.int))
      try dsimp -proj only
      generalize n5 (n5 H7 p8 (.lst (((U3 (iI (odd t) uu vv) row).take ((iI (odd t) uu vv).map V.int).length).map V.int))) p9 (.tup (((U3 (iI (odd t) uu vv) row).take ((iI (odd t) uu vv).map V.int).length).map V.int))=H9 at g9 h99
      rw[eful] at h99
      refine ⟨_,rfl,_,rfl,(by show 2<=i6;decide),fun p10 hp10=>⟨_,rfl,_,rfl,(by show 2<=i6;decide),fun p11 hp11=>⟨(by show 2<=i6;decide),fun p12 hp12=>?_⟩⟩⟩
      have g10:=i7.new (o:=.tup [.ref c,.ref p9]) hp10
      have g11:=i7.new (o:=.tup [.ref p9,.ref e]) hp11
      have g12:=i7.new (o:=.lst [.ref p10,.ref p11]) hp12
      have gnew:=(g10.trans g11).trans g12
      have hh1:=(g11.trans g12) _ _ (f7 (H:=H9) (a:=p10) (o:=.tup [.ref c,.ref p9]))
      have hh2:=g12 _ _ (f7 (H:=n5 H9 p10 (.tup [.ref c,.ref p9])) (a:=p11) (o:=.tup [.ref p9,.ref e]))
      have hh3:=f7 (H:=n5 (n5 H9 p10 (.tup [.ref c,.ref p9])) p11 (.tup [.ref p9,.ref e])) (a:=p12) (o:=.lst [.ref p10,.ref p11])
      try dsimp -proj only
      generalize n5 (n5 (n5 H9 p10 (.tup [.ref c,.ref p9])) p11 (.tup [.ref p9,.ref e])) p12 (.lst [.ref p10,.ref p11])=H12 at gnew hh1 hh2 hh3
      have g6c:i7 H6 H12:=g9.trans gnew
      obtain ⟨pt,y1,y2,ept,hpt,hy1,hy2⟩:∃pt y1 y2,(bif odd t then V.ref p11 else V.ref p10)=.ref pt/\H12 pt=some (.tup [.ref y1,.ref y2])/\H12 y1=some (.tup ((key.take n).map V.int))/\H12 y2=some (.tup ((key.drop n).map V.int)):=by
       have hm12:=gnew _ _ h99
       have hla':=hla
       have hcc:=g6c _ _ hc6
       have hee:=g6c _ _ he6
       rw[ekey]
       revert hm12 hla'
       generalize odd t=o
       intro hm12 hla'
       cases o
       ·have z1:=W9 (v:=U3 (iI false uu vv) row) hUu.len
        exact ⟨p10,c,p9,rfl,hh1,(by show H12 c=some (.tup (((uu++U3 (iI false uu vv) row).take n).map V.int));rw[z1.1];exact hcc),(by show H12 p9=some (.tup (((uu++U3 (iI false uu vv) row).drop n).map V.int));rw[z1.2];exact hm12)⟩
       ·have z1:=W9 (v:=vv) hla'
        exact ⟨p11,p9,e,rfl,hh2,(by show H12 p9=some (.tup (((U3 (iI true uu vv) row++vv).take n).map V.int));rw[z1.1];exact hm12),(by show H12 e=some (.tup (((U3 (iI true uu vv) row++vv).drop n).map V.int));rw[z1.2];exact hee)⟩
      refine ⟨_,rfl,_,_,rfl,rfl,(show (0:Int)<2 by decide),p12,_,_,_,rfl,rfl,.of hh3,DV,?_⟩
      rw[ept]
      refine ⟨_,rfl,_,rfl,_,rfl,dr,_,_,_,rfl,rfl,.of (g6c _ _ hdr6),E3 hdj,_,rfl,dr,gK (odd t) uu vv,rfl,.inr (.of (g6c _ _ hdr6)),(gK (odd t) uu vv).getD j 0,(gK (odd t) uu vv).sum,rfl,by lia,hs0,yt (n:=12) hs0 (by show _<=4096;lia) (by decide),fun p13 H13 g13 hp13=>?_⟩
      refine ⟨qq,p13,mm,cut ((gK (odd t) uu vv).getD j 0) (gK (odd t) uu vv).sum,1660,12,rfl,g13 _ _ (g6c _ _ hf6),hp13,Rat.num_nonneg.mpr hmm.nn,Rat.num_nonneg.mpr cv.nn,d1,cb,by decide,fun p14 H14 g14 hp14=>?_⟩
      have g12e:i7 H12 H14:=g13.trans g14
      have g6e:i7 H6 H14:=g6c.trans g12e
      have kpt:∀{H':Hp},i7 H14 H'->xg H' (kP n key) pt:=fun {H'} g=>by
       refine ⟨y1,y2,g _ _ (g12e _ _ hpt),?_,?_⟩
       ·show H' y1=some (.tup ((kI _).map kV))
        rw[fK];exact g _ _ (g12e _ _ hy1)
       ·show H' y2=some (.tup ((kI _).map kV))
        rw[fK];exact g _ _ (g12e _ _ hy2)
      refine ⟨_,rfl,lt,ys6,rfl,.inl (g6e _ _ hl6),_,rfl,(by show 2<=i6;decide),fun p15 hp15=>?_⟩
      have g15:i7 H14 (n5 H14 p15 (.tup [.int 0,.int 1])):=i7.new hp15
      have hz15:rn (n5 H14 p15 (.tup [.int 0,.int 1])) 0 (.ref p15):=⟨p15,rfl,f7⟩
      try dsimp -proj only
      generalize n5 H14 p15 (.tup [.int 0,.int 1])=H15 at g15 hz15
      have hq15:QP n H15 (Q6 mm (gK (odd t) uu vv).sum (me (odd t) rs uu vv j) (N9 (odd t) n rs (T.take i) [])) ys6:=hq6.mono fun a zs e=>g15 _ _ (g6e _ _ e)
      obtain ⟨r15,er15,hr15⟩:=hq15.val (k:=key) hz15
      refine ⟨ys6,kP n key,pt,.inl (g15 _ _ (g6e _ _ hl6)),hq15.pks,rfl,kpt g15,?_⟩
      rw[er15]
      refine ⟨_,rfl,r15,p14,_,mm*cut ((gK (odd t) uu vv).getD j 0) (gK (odd t) uu vv).sum,1973,1973,rfl,hr15,g15 _ _ hp14,Rat.num_nonneg.mpr vvq.nn,Rat.num_nonneg.mpr pv'.nn,d3,d2,by decide,fun p16 H16 g16 hp16=>?_⟩
      have g6g:i7 H6 H16:=g6e.trans (g15.trans g16)
      have hq16:QP n H16 (Q6 mm (gK (odd t) uu vv).sum (me (odd t) rs uu vv j) (N9 (odd t) n rs (T.take i) [])) ys6:=hq15.mono fun a zs e=>g16 _ _ e
      refine ⟨_,rfl,_,rfl,lt,ys6,kP n key,pt,p16,rfl,rfl,rfl,g6g _ _ hl6,hq16.pks,kpt (g15.trans g16),by rw[<- hq16.len];exact jw hlen,?_⟩
      have hq17:=QP.put (x:=mm*cut ((gK (odd t) uu vv).getD j 0) (gK (odd t) uu vv).sum) (kpt (g15.trans g16)) hq16 pp2 hp16
      refine n_ _ _ ⟨(k6.trans (g6g.kp lt)).trans Kp.at,⟨_,f7,?_⟩,hjn,_,_,_,_,rfl⟩
      have eu:me (odd t) rs uu vv (j+1)=me (odd t) rs uu vv j++[((gK (odd t) uu vv).getD j 0,key)]:=by
       show me (odd t) rs uu vv j++_=_
       rw[if_pos hpos,ekey,erow]
      rw[eu,kA]
      exact hq17.mono (ip (g6g _ _ hl6) (ndt _ _) Kp.at)
    ·rw[decide_eq_false hpos]
     refine W3 ?_
     refine n_ _ _ ⟨k6,⟨ys6,hl6,?_⟩,hjn,_,_,_,_,rfl⟩
     have eu:me (odd t) rs uu vv (j+1)=me (odd t) rs uu vv j:=by
      show me (odd t) rs uu vv j++_=_
      rw[if_neg hpos,S6]
     rw[eu]
     exact hq6
   ·refine fS fun R k_=>?_
    obtain ⟨k6,⟨ys6,hl6,hq6⟩,_,o12,o13,o14,o15,rfl⟩:=h
    refine k_ ?_
    refine n_ _ _ ⟨k5.trans k6,⟨ys6,hl6,?_⟩,hil,_,_,_,_,_,_,_,_,_,rfl⟩
    rw[D2,hum']
    show QP n H6 (N9 (odd t) n rs (T.take i++[(kk,mm)]) []) ys6
    rw[nN,<- euu,<- evv]
    exact hq6
  ·refine fS fun R k_=>?_
   obtain ⟨k4',⟨ys4,hl4,hq4⟩,_,o7,o8,o9,o10,o11,o12,o13,o14,o15,rfl⟩:=h
   refine k_ ?_
   rw[d6,hal,D4] at hq4
   have pN:=EL hR n4 hU hV (show t<=3 by lia) pT
   refine fS fun R k_=>?_
   obtain ⟨v1,v2,v3,v4⟩:=vi (k:=t+1) hR n1 n4 hU hV (by lia)
   refine k_ ?_
   have hKN:KU n (20+5*(t+1)) (N9 (odd t) n rs T []):=fun p hp=>v1 p (pN.mem_iff.mp hp)
   have hNN:fq (N9 (odd t) n rs T []):=(List.Perm.nodup_iff (List.Perm.map Prod.fst pN)).mpr v2
   have rk:=hq4.rk
   refine ⟨_,rfl,lt,ys4,n,BA H4,Bz H4,rfl,hl4,by rw[<- hq4.len,pN.length_eq];exact v4,rk.trs hKN hNN,fun D as' H5 pm so g5 hDn hD=>⟨D,rfl,⟨_,.of hD⟩,?_⟩⟩
   refine fS fun R k_=>?_
   obtain ⟨T',pT',oT',rk'⟩:=rk.sorted pm so
   refine k_ ?_
   have hal':as'.length=T'.length:=(U0 rk').symm
   have hl5:=g5 _ _ hl4
   have hq5:QP n H5 (N9 (odd t) n rs T []) ys4:=hq4.mono fun a zs e=>g5 _ _ e
   refine qp (K:=K) (a:=D) (xs:=as'.map V.ref) (by rw[d6,hal',pT'.length_eq,pN.length_eq];exact U8 (jw (by lia))) (fun i ys H6=>i7 H5 H6/\i<=as'.length/\∃bs:List Addr,ys=bs.map V.ref/\bs.length=i/\R3 n H6 (T'.take i) bs) ⟨i7.refl _,u9 _,[],rfl,rfl,.nil⟩ (fun i ys H6 h=>?_) (fun i ys H6 _ h=>.of (h.1 _ _ hD)) rfl (fun i ys H6 x hx h=>?_) (fun ys H6 h=>?_)
   ·refine fS fun R k_=>?_
    obtain ⟨_,_,bs,rfl,hb,_⟩:=h
    refine k_ ?_
    rw[d6];exact hb
   ·refine fS fun R k_=>?_
    obtain ⟨g6,hi,bs,rfl,hbs,r6⟩:=h
    refine k_ ?_
    have hil:i<T'.length:=by have:=(List.getElem?_eq_some_iff.mp hx).1;rw[d6,hal'] at this;exact this
    refine fS fun R k_=>?_
    obtain ⟨xa,hxa,c,e,hx1,hx2,hx3⟩:=Paired.get rk' (f6 hil)
    refine k_ ?_
    rw[A4,hxa] at hx
    cases hx
    have hm':T'[i]∈N9 (odd t) n rs T []:=pT'.mem_iff.mp (K0 hil)
    obtain ⟨vq,hvq,hfq⟩:=hq4.at_ hNN hm'
    have g46:=g5.trans g6
    have hh1:=g46 _ _ hx1
    have kpt:xg H6 (kP n T'[i].1) xa:=⟨c,e,hh1,by show H6 c=some (.tup ((kI _).map kV));rw[fK];exact g46 _ _ hx2,by show H6 e=some (.tup ((kI _).map kV));rw[fK];exact g46 _ _ hx3⟩
    refine ⟨_,rfl,xa,_,_,_,rfl,rfl,.of hh1,rfl,_,rfl,xa,_,_,_,rfl,rfl,.of hh1,rfl,_,rfl,_,rfl,lt,ys4,kP n T'[i].1,xa,vq,rfl,.inl (g6 _ _ hl5),(hq5.mono fun a zs e=>g6 _ _ e).pks,rfl,kpt,hvq,(by show 3<=i6;decide),fun q hq=>?_⟩
    have g7:i7 H6 (n5 H6 q (.tup [.ref c,.ref e,.ref vq])):=i7.new hq
    refine ⟨g6.trans g7,by lia,bs++[q],by rw[A3];rfl,by rw[v9,hbs];rfl,?_⟩
    rw[D2,f6 hil]
    exact bO ⟨c,e,vq,f7,g7 _ _ (g46 _ _ hx2),g7 _ _ (g46 _ _ hx3),g7 _ _ (g46 _ _ hfq)⟩ (R3.mono r6 fun a zs e=>g7 _ _ e)
   ·refine fS fun R k_=>?_
    obtain ⟨g6,hi,bs,rfl,hbs,r6⟩:=h
    refine k_ ?_
    rw[d6,hal',D4] at r6
    intro p7 hp7
    have g37:i7 H H6:=fun z o ez=>g6 _ _ (g5 _ _ (k4' _ _ (v5 (g3 _ _ ez) hlt) (gb _ _ (g3 _ _ ez))))
    have g8:i7 H6 (n5 H6 p7 (.lst (bs.map V.ref))):=i7.new hp7
    exact n_ _ _ ⟨g37.trans g8,by lia,p7,bs,T',_,_,_,_,_,_,_,_,_,_,_,g37.free hp7,f7,R3.mono r6 (fun a zs e=>g8 _ _ e),pT'.trans pN,oT',rfl⟩
 ·refine fS fun R k_=>?_
  obtain ⟨g3,htk,l,as,T,o5,o6,o7,o8,o9,o10,o11,o12,o13,o14,o15,hln,hl3,hr3,pT,oT,rfl⟩:=h
  refine k_ ?_
  exact ⟨_,rfl,q l as T H3 hln g3 pT oT hl3 hr3⟩
end
end G
namespace L2
open PySem PySem.Spec PyProof.Rows
section
variable {X:Cx}{K:m9}
end
end L2
namespace L2
open PySem PySem.Spec PyProof.Rows PySem.SeqAt
section
variable {X:Cx}{K:m9}
end
end L2
namespace L2
open PySem PySem.Spec PyProof.Rows
section
variable {X:Cx}
noncomputable def Gk (K:m9) (a b:Addr):It :=
 ⟨fun i H=>∃xs ys x y,eV K H a xs/\eV K H b ys/\xs[i]?=some x/\ys[i]?=some y,fun i H v H'=>∃p x y,H p=none/\v=.ref p/\H'=n5 H p (.tup [x,y])/\(∀xs,eV K H a xs->xs[i]?=some x)/\∀ys,eV K H b ys->ys[i]?=some y,
  fun i H=>∃xs,eV K H a xs/\xs.length<=i⟩
end
section
variable {X:Cx}{K:m9}
theorem Bj {a b:Addr}{xs ys:List V}{σ0:St}{te:TE}{H:Hp}{F:List V->Hp->Prop} (hn:xs.length<=i6) (hxy:xs.length=ys.length) (Pv:Nat->List V->Hp->Prop) (h0:Pv 0 [] H) (hl:∀i zs H,Pv i zs H->zs.length=i)
  (hq:∀i zs H,i<=xs.length->Pv i zs H->eV K H a xs/\eV K H b ys) (hσ:σ0[0]?=some none/\σ0[1]?=some none)
  (hs:∀i zs H x y p,xs[i]?=some x->ys[i]?=some y->H p=none->Pv i zs H->te ((σ0.set 0 (some x)).set 1 (some y)) (n5 H p (.tup [x,y])) fun z H'=>Pv (i+1) (zs++[z]) H') (hd:∀zs H,Pv xs.length zs H->F zs H):
  Bn (Gk K a b) σ0 (qi K 2 (bP (V7 0) (bP (V7 1) rj))) S1 te H F:=by
 refine ⟨fun i m zs H=>m=xs.length - i/\i<=xs.length/\Pv i zs H,⟨xs.length,by simp,u9 _,h0⟩,?_⟩
 rintro i m zs H2 ⟨rfl,hi,p⟩
 obtain ⟨q1,q2⟩:=hq i zs H2 hi p
 refine ⟨by rw[hl i zs H2 p];lia,?_⟩
 by_cases hlt:i<xs.length
 ·refine .inr ⟨⟨xs,ys,xs[i],ys[i]'(by lia),q1,q2,by simp[hlt],by rw[f6 (by lia)]⟩,fun y H'=>Pv (i+1) (zs++[y]) H',fun _=>False,fun y H' q=>⟨xs.length - (i+1),by lia,rfl,hlt,q⟩,fun _ q=>q.elim,fun v H3 yld=>?_⟩
  obtain ⟨r,x,y,hr,rfl,rfl,hx,hy⟩:=yld
  exact ⟨r,[x,y],rfl,.of f7,rfl,x,[y],rfl,y,[],rfl,rfl,wk2 hσ _ _,hs i zs _ x y r (hx xs q1) (hy ys q2) hr p⟩
 ·have e:i=xs.length:=by lia
  subst e
  exact .inl ⟨⟨xs,q1,i8 _⟩,hd zs H2 p⟩
end
theorem DB (K:m9) (d:B0):W.kitAny K (.type (GC d)) [.type "tuple",.type "list"]=some (mZ d):=by cases d <;> kernel_rfl
section
variable {X:Cx}
noncomputable def ye:B0->Bool
 | .dict _=>false
 | _=>true
theorem sk:cx X (.builtin "isinstance") (fun xs H Q=>∃x st d p,xs=[x,.ref p]/\Dt st H d x/\ye d=true/\H p=some (.tup [.ty "tuple",.ty "list"])/\Q (.bl (mZ d)) H):=by
 intro pins s σ H xs us Q I r h
 obtain ⟨x,st,d,p,rfl,hd,ok,hp,q⟩:=h
 cases r with
 | cons r1 rr =>
  cases rr with
  | cons r2 rr =>
   cases rr
   cases r2
   have e:=DB X.K d
   obtain ⟨_,its,rv,ob,ho,hc,n,hdt⟩:=(show P5 X.prog X.w H s.heap p (.tup [.ty "tuple",.ty "list"]) from I.hok p _ hp)
   cases rv with
   | cons q1 rv =>
    cases rv with
    | cons q2 rv =>
     cases rv
     cases q1
     cases q2
     obtain ⟨oc,od,dt,sl⟩:=ob
     simp only at hc hdt
     subst hc hdt
     have fin:∀tk,EP X pins σ Q (.bool (mZ d)) { s with toks:=tk }:=fun tk=>⟨.bl (mZ d),H,I.tok tk,rfl,q⟩
     cases d with
     | none =>
      unfold Dt at hd
      subst hd
      cases r1
      exact nB W.kitx_none I.kIn au ho e (fun z=>nomatch z) fin
     | bool i =>
      unfold Dt at hd
      subst hd
      cases r1
      exact nB W.kitx_bool I.kIn au ho e (fun z=>nomatch z) fin
     | int i =>
      unfold Dt at hd
      subst hd
      obtain ⟨t,rfl⟩:=r1
      exact nB W.kitx_int I.kIn au ho e (fun z=>nomatch z) fin
     | str i =>
      unfold Dt at hd
      subst hd
      obtain ⟨t,rfl⟩:=r1
      exact nB W.kitx_str I.kIn au ho e (fun z=>nomatch z) fin
     | tuple ds =>
      unfold Dt at hd
      obtain ⟨a,xs,e1,_,ha,_⟩:=hd
      subst e1
      cases r1
      obtain ⟨_,_,_,o,h1,h2,_⟩:=(show P5 X.prog X.w H s.heap a (.tup xs) from I.hok a _ ha)
      exact nB W.kitx_tuple I.kIn ⟨o,h1,h2⟩ ho e (fun z=>nomatch z) fin
     | list ds =>
      unfold Dt at hd
      obtain ⟨a,xs,e1,_,ha,_⟩:=hd
      subst e1
      cases r1
      obtain ⟨_,_,_,_,h1⟩:=(show P5 X.prog X.w H s.heap a (.lst xs) from I.hok a _ ha)
      exact nB EB I.kIn ⟨_,h1,rfl⟩ ho e (fun z=>nomatch z) fin
     | dict _=>cases (show false=true from ok)
end
end L2
namespace G
open PySem PySem.Spec PyProof.Rows L2 Mt Md Mq
section
variable {P:j6}{w:r9}{K:m9}{mg:Str->Option b9}{base:Heap}{f:Addr}{fd:D6}{ec:Nat->Addr}{Bs:Addr}
noncomputable def mF:Sp:=fun vs H Q _=>∃(l:Addr) (x:Int) (b:Bool),vs=[.ref l,.int 4]/\H l=some (.lst [.int x,.bl b])/\lT x b/\∀(v:V) (H':Hp) (d:B0),ak l b H H'->Dt l H' d v->S7 0 4 d=false->Q v H'
noncomputable abbrev pG:Stmt:=fE 57
theorem AA:D9 ["_law_state_here","_law_most"] ["_law_state_here","_law_most"] (A1 pG):=⟨rfl,rfl,rfl,by decide +kernel,rfl,by decide +kernel,by decide +kernel⟩
theorem AH (F:bT K "_law_number" "_law_number" pG f fd) (c1:V4 P w K mg base 1 "_law_take" ["_law_state_here","_law_many"] ba):N0 P w K mg base dI 2 f fd ["_law_state_here","_law_most"] mF:=by
 refine F.ok AA (fun vs H Q E h=>?_) (fun cdv A outer s H vs Q E hr h=>?_)
 ·obtain ⟨l,x,b,rfl,_⟩:=h
  rfl
 obtain ⟨l,x,b,rfl,hl,hst,q⟩:=h
 refine ⟨_,t6 (D7 (G4 R8 (N8 (b7 (D5 Z5 (pv 1) j0) (mP 5 rfl (b7 (D3 (b7 j0 d8)) (b7 (N8 (b7 j0 d8)) (b7 (D5 kD j0 j0) (b7 (CS xv (D5 kD j0 j0)) d8))))))) (B9 c1 hr rfl (b7 (pv 0) (b7 j0 d8))) (fun _ _=>rfl))),?_⟩
 have s0:ak l b H H:=ak.start hl hst
 refine ⟨_,rfl,_,_,rfl,rfl,(by show 1<=i6;decide),fun pt hpt=>?_⟩
 have s2:ak l b H (n5 H pt (.tup [.int 1])):=s0.new hpt
 have hpt2:n5 H pt (.tup [.int 1]) pt=some (.tup [.int 1]):=f7
 have npt:pt≠l:=(s0.ne hpt).symm
 try dsimp only
 generalize n5 H pt (.tup [.int 1])=H2 at s2 hpt2
 refine ⟨(by show 1<=i6;decide),fun pw hpw=>?_⟩
 have g3:i7 H2 (n5 H2 pw (.lst [.int 1])):=i7.new hpw
 have hpw3:n5 H2 pw (.lst [.int 1]) pw=some (.lst [.int 1]):=f7
 have npw:pw≠l:=(s2.ne hpw).symm
 have s3:=s2.same g3
 try dsimp only
 generalize n5 H2 pw (.lst [.int 1])=H3 at s3 g3 hpw3
 refine ⟨_,_,rfl,rfl,⟨by decide,by decide,by decide⟩,_,_,rfl,rfl,⟨by decide,by decide,by decide⟩,_,rfl,(by show 10<=i6;decide),fun po hpo=>?_⟩
 obtain ⟨X,hX⟩:∃X:List V,X=.int (4+1)::([.int (-1),.bl true,.bl false,.non,.str "1"]++[.ref pt,.ref pw,.int (10 ^ 29),.int (-(10 ^ 29))]):=⟨_,rfl⟩
 have s4:ak l b H (n5 H3 po (.lst X)):=s3.new hpo
 have g4:i7 H3 (n5 H3 po (.lst X)):=i7.new hpo
 have hpo4:n5 H3 po (.lst X) po=some (.lst X):=f7
 have npo:po≠l:=(s3.ne hpo).symm
 show GM ba _ _ (n5 H3 po (.lst (.int (4+1)::([.int (-1),.bl true,.bl false,.non,.str "1"]++[.ref pt,.ref pw,.int (10 ^ 29),.int (-(10 ^ 29))])))) _
 rw[<- hX]
 generalize n5 H3 po (.lst X)=H4 at s4 g4 hpo4
 obtain ⟨_,x4,hx4,ok4⟩:=id s4
 refine ⟨_,rfl,l,10,x4,b,rfl,hx4,ok4,by decide,by decide,fun y x5 hy ok5=>?_⟩
 have s5:=s4.go ok5
 have k5:Kp l H4 (n5 H4 l (.lst [.int x5,.bl b])):=Kp.at
 try dsimp only
 generalize n5 H4 l (.lst [.int x5,.bl b])=H5 at s5 k5
 have f1:=k5 _ _ npt ((g3.trans g4) _ _ hpt2)
 have f2:=k5 _ _ npw (g4 _ _ hpw3)
 obtain ⟨v,d,hv,dt,hw⟩:∃v d,X[y]?=some v/\Dt l H5 d v/\S7 0 4 d=false:=by
  rw[hX]
  have hy':y<10:=by lia
  match y,hy' with
  | 0,_=>exact ⟨_,_,rfl,Dt.int _ _ _,by decide⟩
  | 1,_=>exact ⟨_,_,rfl,Dt.int _ _ _,by decide⟩
  | 2,_=>exact ⟨_,_,rfl,Dt.bl _ _ _,rfl⟩
  | 3,_=>exact ⟨_,_,rfl,Dt.bl _ _ _,rfl⟩
  | 4,_=>exact ⟨_,_,rfl,Dt.non _ _,rfl⟩
  | 5,_=>exact ⟨_,_,rfl,Dt.str _ _ _,rfl⟩
  | 6,_=>exact ⟨_,_,rfl,Dt.mkI (ns:=[1]) npt f1,rfl⟩
  | 7,_=>exact ⟨_,_,rfl,Dt.lst npw f2 (S3.cons (Dt.int _ _ _) (S3.nil _ _)),rfl⟩
  | 8,_=>exact ⟨_,_,rfl,Dt.int _ _ _,by decide⟩
  | 9,_=>exact ⟨_,_,rfl,Dt.int _ _ _,by decide⟩
 exact ⟨po,_,_,_,rfl,rfl,.of (k5 _ _ npo hpo4),E3 hv,q v H5 d s5 dt hw⟩
noncomputable abbrev jb:Stmt:=fE 61
theorem zi:D9 ["_law_found","_law_due_here"] ["_law_found","_law_due_here"] (A1 jb):=⟨rfl,rfl,rfl,by decide +kernel,rfl,by decide +kernel,by decide +kernel⟩
noncomputable def Ck:Sp:=fun vs H Q _=>∃v,vs=[v,v]/\(v=.non ∨ ∃i,v=.int i)/\∀H',i7 H H'->Q (.bl true) H'
theorem Dj (F:bT K "_law_same" "_law_same" jb f fd) (B:Bt mg):N0 P w K mg base dI 1 f fd ["_law_found","_law_due_here"] Ck:=by
 refine F.ok zi (fun vs H Q E h=>?_) (fun cdv A outer s H vs Q E hr h=>?_)
 ·obtain ⟨v,rfl,_⟩:=h
  rfl
 obtain ⟨v,rfl,hv,q⟩:=h
 refine ⟨_,m7 (V6 (ar (u5 sk rfl B.isinstance B4 (b7 (pv 1) (b7 (D3 (b7 (Y7 rfl B.tuple J6) (b7 (Y7 rfl B.list iy) d8))) d8)))) rN K9)
  (t6 (D7 (dR (df (HU hr.units) (pv 0) (pv 1) (O8 _)) (cP (df jj (u5 (W4 lJ) rfl B.isinstance B4 (b7 (pv 0) (b7 (Y7 rfl B.bool Ed) d8))) (u5 (W4 lJ) rfl B.isinstance B4 (b7 (pv 1) (b7 (Y7 rfl B.bool Ed) d8))) (O8 _)))))),?_⟩
 obtain ⟨d,hd,h1,h2,h3,h4,h5⟩:∃d:B0,(∀(st:Addr) (H':Hp),Dt st H' d v)/\ye d=true/\mZ d=false/\br d=true/\rA d d=true/\zI d=false:=by
  rcases hv with rfl|⟨i,rfl⟩
  ·exact ⟨.none,fun st H'=>Dt.non _ _,rfl,rfl,by decide,by decide,rfl⟩
  ·exact ⟨.int i,fun st H'=>Dt.int _ _ _,rfl,rfl,by unfold br;simp[jO,PyData.depth],by unfold rA;simp,rfl⟩
 refine ⟨_,rfl,(by show 2<=i6;decide),fun p hp=>⟨v,0,d,p,rfl,hd 0 _,h1,f7,_,rfl,?_⟩⟩
 rw[h2]
 refine W3 ⟨_,rfl,_,rfl,0,d,d,hd 0 _,hd 0 _,h3,h3,_,rfl,?_⟩
 rw[h4]
 refine V0 ⟨_,rfl,v,0,d,rfl,hd 0 _,_,rfl,v,0,d,rfl,hd 0 _,rfl,?_⟩
 rw[decide_eq_true rfl]
 exact q _ (i7.new hp)
end
end G
namespace L2
open PySem PySem.Spec PyProof.Rows
section
variable {X:Cx}
noncomputable def KM (K:m9) (ta:TA):TI:=fun σ H R=>ta σ H fun vs H1=>∃a b xs ys,vs=[.ref a,.ref b]/\((dH K H1 a xs/\dH K H1 b ys/\R (Itz K a b) H1) ∨ (eV K H1 a xs/\eV K H1 b ys/\R (Gk K a b) H1))
theorem EW {e1 e2:Expr}{es:List Expr}{kk:Nat}{pt p pos:Pos}{ta:TA} (hg:Gl X "zip") (hm:X.mg "zip"=none) (ha:PA X [e1,e2] ta) (hs:C4 [e1,e2] X.env=[(false,eval e1 X.env),(false,eval e2 X.env)]:=by rfl) (hs2:C4 [e2] X.env=[(false,eval e2 X.env)]:=by rfl):
  PI X (.Tuple es kk pt) (.Call (.Name "zip" p) [e1,e2] [] pos) (KM X.K ta):=
 zr hg hm ha (fun I ⟨_,_,_,_,e,h⟩=>⟨_,_,e,h.elim (fun h=>oU (p:=false) (q:=false) I h.1 h.2.1 (fun D=>mB D) h.2.2) fun h=>oU (p:=true) (q:=true) I h.1 h.2.1 (fun D=>mB D) h.2.2⟩) hs hs2
end
end L2
namespace G
open PySem PySem.Spec PyProof.Rows L2 Mt Md Mq M8
noncomputable def KI:Nat->B0->Prop
 | 0,d=>∃i,d=.int i
 | k+1,d=>∃ds:List B0,(d=.tuple ds ∨ d=.list ds)/\ds.length<=1000/\∀x∈ds,KI k x
theorem uy {st:Addr}{H:Hp}:∀{ds:List B0}{xs:List V}{i:Nat}{x:V},S3 st H ds xs->xs[i]?=some x->∃d,ds[i]?=some d/\Dt st H d x
 | d::ds,_,0,x,h,e=>by
  obtain ⟨y,r,e1,q1,_⟩:=h
  subst e1
  cases e
  exact ⟨d,rfl,q1⟩
 | d::ds,_,i+1,x,h,e=>by
  obtain ⟨y,r,e1,_,q2⟩:=h
  subst e1
  obtain ⟨d',h1,h2⟩:=uy (i:=i) q2 (by simpa using e)
  exact ⟨d',by simpa using h1,h2⟩
 | [],xs,i,x,h,e=>by
  have:xs=[]:=h
  subst this
  simp at e
section
variable {P:j6}{w:r9}{K:m9}{mg:Str->Option b9}{base:Heap}{f:Addr}{fd:D6}{ec:Nat->Addr}{Bs:Addr}
noncomputable def lj (k:Nat):Sp:=fun vs H Q _=>∃(v v':V) (st:Addr) (d:B0),vs=[v,v']/\Dt st H d v/\Dt st H d v'/\KI k d/\∀H',i7 H H'->Q (.bl true) H'
theorem HV (F:bT K "_law_same" "_law_same" jb f fd) (B:Bt mg):N0 P w K mg base dI 1 f fd ["_law_found","_law_due_here"] (lj 0):=
 (Dj F B).imp fun vs H Q E h=>by
  obtain ⟨v,v',st,d,rfl,h1,h2,⟨i,rfl⟩,q⟩:=h
  unfold Dt at h1 h2
  subst h1 h2
  exact ⟨_,rfl,.inr ⟨i,rfl⟩,q⟩
theorem Dh {k:Nat} (F:bT K "_law_same" "_law_same" jb f fd) (B:Bt mg) (c1:V4 P w K mg base (k+1) "_law_same" ["_law_found","_law_due_here"] (lj k)):N0 P w K mg base dI (k+2) f fd ["_law_found","_law_due_here"] (lj (k+1)):=by
 refine F.ok zi (fun vs H Q E h=>?_) (fun cdv A outer s H vs Q E hr h=>?_)
 ·obtain ⟨v,v',st,d,rfl,_⟩:=h
  rfl
 obtain ⟨v,v',st,d,rfl,hv,hv',hl,q⟩:=h
 refine ⟨_,m7 (V6 (ar (u5 sk rfl B.isinstance B4 (b7 (pv 1) (b7 (D3 (b7 (Y7 rfl B.tuple J6) (b7 (Y7 rfl B.list iy) d8))) d8))))
   (m7 (V6 (PW.pt (pL (R7 jU (u5 (W4 iq) rfl B.isinstance B4 (b7 (pv 0) (b7 (Y7 rfl B.tuple J6) d8))) (u5 (W4 iq) rfl B.isinstance B4 (b7 (pv 1) (b7 (Y7 rfl B.tuple J6) d8))) (O8 _))
    (kz (R7 jU (u5 (W4 we) rfl B.isinstance B4 (b7 (pv 0) (b7 (Y7 rfl B.list iy) d8))) (u5 (W4 we) rfl B.isinstance B4 (b7 (pv 1) (b7 (Y7 rfl B.list iy) d8))) (O8 _))))) (t6 (D7 dF)) K9)
   (t6 (D7 (dR (df jj (u5 D8 rfl B.len C8 (b7 (pv 0) d8)) (u5 D8 rfl B.len C8 (b7 (pv 1) d8)) (O8 _))
    (cP (u5 (cw rfl) rfl B.all Ah (b7 (N4 (N:=["_law_one","_law_other"]) (ix:=[none,none]) (ifs:=[]) (tc:=S1) rfl (EW rfl B.zip (b7 (pv 0) (b7 (pv 1) d8)))
     (fun s H ex=>qX (K:=K) (n:=2) rfl rfl (G0 (aj (i:=0) (by decide +kernel) rfl (A2 rfl) (.inr rfl)) (G0 (aj (i:=1) (by decide +kernel) rfl (A2 rfl) (.inr rfl)) Z3))) (fun s H ex=>M4)
     (fun s H ex=>B9 c1 hr rfl (b7 (pv 0) (b7 (pv 1) d8))) rfl (by decide +kernel) (by rfl) (by rfl) (fun _=>rfl)) d8))))))) K9) rN,?_⟩
 obtain ⟨ds,hds,hdl,hdx⟩:=hl
 have ok:ye d=true:=by rcases hds with rfl|rfl <;> rfl
 have sq:mZ d=true:=by rcases hds with rfl|rfl <;> rfl
 obtain ⟨p,r,xs,ys,rfl,rfl,dx,dy,sqs⟩:∃p r xs ys,v=.ref p/\v'=.ref r/\S3 st H ds xs/\S3 st H ds ys/\((H p=some (.tup xs)/\H r=some (.tup ys)) ∨ (H p=some (.lst xs)/\H r=some (.lst ys))):=by
  rcases hds with rfl|rfl
  ·unfold Dt at hv hv'
   obtain ⟨a,xs,e,_,h1,h2⟩:=hv
   obtain ⟨b,ys,e',_,h1',h2'⟩:=hv'
   exact ⟨a,b,xs,ys,e,e',h2,h2',.inl ⟨h1,h1'⟩⟩
  ·unfold Dt at hv hv'
   obtain ⟨a,xs,e,_,h1,h2⟩:=hv
   obtain ⟨b,ys,e',_,h1',h2'⟩:=hv'
   exact ⟨a,b,xs,ys,e,e',h2,h2',.inr ⟨h1,h1'⟩⟩
 have lx:=dx.len
 have ly:=dy.len
 have hxy:xs.length=ys.length:=by lia
 have hlx:xs.length<=1000:=by lia
 refine ⟨_,rfl,(by show 2<=i6;decide),fun t ht=>?_⟩
 have g1:i7 H (n5 H t (.tup [.ty "tuple",.ty "list"])):=i7.new ht
 refine ⟨.ref r,st,d,t,rfl,hv'.kp (g1.kp st),ok,f7,_,rfl,?_⟩
 rw[sq]
 refine V0 ?_
 generalize n5 H t (.tup [.ty "tuple",.ty "list"])=H1 at g1
 have hv1:=hv.kp (g1.kp st)
 have hv1':=hv'.kp (g1.kp st)
 refine ⟨_,rfl,.ref p,_,_,rfl,hv1,_,rfl,.ref r,_,_,rfl,hv1',rfl,_,rfl,?_⟩
 rw[decide_eq_true rfl]
 refine W3 ⟨_,rfl,.ref p,_,_,rfl,hv1,_,rfl,.ref r,_,_,rfl,hv1',rfl,_,rfl,?_⟩
 rw[decide_eq_true rfl]
 have len1:∀{H':Hp},i7 H H'->(eV K H' p xs ∨ dH K H' p xs)/\(eV K H' r ys ∨ dH K H' r ys):=fun {H'} g=>sqs.elim (fun h=>⟨.inr (.of (g _ _ h.1)),.inr (.of (g _ _ h.2))⟩) fun h=>⟨.inl (.of (g _ _ h.1)),.inl (.of (g _ _ h.2))⟩
 refine W3 ⟨_,rfl,p,_,rfl,(len1 g1).1,_,rfl,r,_,rfl,(len1 g1).2,rfl,_,rfl,?_⟩
 rw[decide_eq_true (by rw[hxy])]
 have step:∀{i:Nat}{x y:V}{H2:Hp}{p':Addr}{zs:List V},xs[i]?=some x->ys[i]?=some y->H2 p'=none->i7 H H2/\zs=A7 i (V.bl true) ->
   GM (lj k) (bM (T6 0) (bM (T6 1) mD)) [some x,some y] (n5 H2 p' (.tup [x,y])) fun z H'=>i7 H H'/\zs++[z]=A7 (i+1) (V.bl true):=fun {i x y H2 p' zs} hx hy hp' h=>by
  obtain ⟨hS,rfl⟩:=h
  have hS':=hS.trans (i7.new (o:=.tup [x,y]) hp')
  obtain ⟨dd,e1,d1⟩:=uy dx hx
  obtain ⟨dd',e2,d2⟩:=uy dy hy
  rw[e1] at e2
  cases e2
  refine ⟨_,rfl,_,rfl,x,y,st,dd,rfl,d1.kp (hS'.kp st),d2.kp (hS'.kp st),hdx dd (C5 e1),fun H3 g3=>⟨hS'.trans g3,?_⟩⟩
  rw[List.replicate_succ']
 have fin:∀(zs:List V) (H2:Hp),i7 H H2/\zs=A7 xs.length (V.bl true)->∀pz,H2 pz=none->Q (.bl true) (n5 H2 pz (.lst zs))/\zs.all rP=true/\zs.all mC=true:=fun zs H2 h pz hpz=>by
  obtain ⟨hS,rfl⟩:=h
  exact ⟨q _ (hS.trans (i7.new hpz)),by rw[Ek];simp[rP],by rw[Ek];simp[mC]⟩
 refine V0 ⟨_,rfl,_,rfl,p,r,xs,ys,rfl,?_⟩
 rcases sqs with ⟨hp,hr2⟩|⟨hp,hr2⟩
 ·refine .inl ⟨.of (g1 _ _ hp),.of (g1 _ _ hr2),zX (K:=K) (a:=p) (b:=r) (xs:=xs) (ys:=ys) (sz hlx) hxy
   (fun i zs H2=>i7 H H2/\zs=A7 i (.bl true)) ⟨g1,rfl⟩ (fun i zs H2 h=>by rw[h.2,P0]) (fun i zs H2 _ h=>⟨.of (h.1 _ _ hp),.of (h.1 _ _ hr2)⟩) ⟨rfl,rfl⟩ (fun i zs H2 x y p' hx hy hp' h=>step hx hy hp' h) (fun zs H2 h pz hpz=>?_)⟩
  obtain ⟨f1,f2,f3⟩:=fin zs H2 h pz hpz
  exact ⟨pz,_,rfl,.inl (.of f7),f2,by rw[f3];exact f1⟩
 ·refine .inr ⟨.of (g1 _ _ hp),.of (g1 _ _ hr2),Bj (K:=K) (a:=p) (b:=r) (xs:=xs) (ys:=ys) (sz hlx) hxy
   (fun i zs H2=>i7 H H2/\zs=A7 i (.bl true)) ⟨g1,rfl⟩ (fun i zs H2 h=>by rw[h.2,P0]) (fun i zs H2 _ h=>⟨.of (h.1 _ _ hp),.of (h.1 _ _ hr2)⟩) ⟨rfl,rfl⟩ (fun i zs H2 x y p' hx hy hp' h=>step hx hy hp' h) (fun zs H2 h pz hpz=>?_)⟩
  obtain ⟨f1,f2,f3⟩:=fin zs H2 h pz hpz
  exact ⟨pz,_,rfl,.inl (.of f7),f2,by rw[f3];exact f1⟩
end
end G
namespace G
open PySem PySem.Spec PyProof.Rows L2 Mt
section
variable {P:j6}{w:r9}{K:m9}{mg:Str->Option b9}{base:Heap}{f:Addr}{fd:D6}{ec:Nat->Addr}{Bs:Addr}
noncomputable def xB:Sp:=fun vs H Q _=>∃(l:Addr) (x:Int) (b:Bool),vs=[.ref l]/\H l=some (.lst [.int x,.bl b])/\lT x b/\∀(v:V) (H':Hp),ak l b H H'->Tg l H' v->Q v H'
noncomputable abbrev CC:Stmt:=fE 54
theorem CA:D9 ["_law_state_here","_law_some"] ["_law_state_here"] (A1 CC):=⟨rfl,rfl,rfl,by decide +kernel,rfl,by decide +kernel,by decide +kernel⟩
theorem HW (F:bT K "_law_odd" "_law_odd" CC f fd) (c1:V4 P w K mg base 1 "_law_take" ["_law_state_here","_law_many"] ba):N0 P w K mg base dI 2 f fd ["_law_state_here"] xB:=by
 refine F.ok CA (fun vs H Q E h=>?_) (fun cdv A outer s H vs Q E hr h=>?_)
 ·obtain ⟨l,x,b,rfl,_⟩:=h
  rfl
 obtain ⟨l,x,b,rfl,hl,hst,q⟩:=h
 refine ⟨_,@m7 _ _ _ _ _ (@F9 _ _ 1 _ _ _ _ CA.nd rfl (A2 rfl) (@N8 _ _ _ _ (@mP _ _ _ _ 8 rfl (@pQ _ _ _ _ _ _ _ (@D3 _ _ _ _ _ d8) (@Kq _ _ _ _ _ _ (@N8 _ _ _ _ d8) (@pQ _ _ _ _ _ _ _ (@D3 _ _ _ _ _ (@jK _ _ _ _ _ _ _ dF d8)) (@Kq _ _ _ _ _ _ (@N8 _ _ _ _ (@jK _ _ _ _ _ _ _ j0 d8)) (@pa_d _ _ _ _ _ _ _ Kn (@pQ _ _ _ _ _ _ _ (@D3 _ _ _ _ _ (@jK _ _ _ _ _ _ _ kC d8)) (@pQ _ _ _ _ _ _ _ (@D3 _ _ _ _ _ (@pQ _ _ _ _ _ _ _ (@D3 _ _ _ _ _ (@jK _ _ _ _ _ _ _ j0 d8)) d8)) (@pa_b _ _ _ _ _ _ _ _ (@D5 _ _ _ _ _ _ _ _ kD j0 j0) (@pQ _ _ _ _ _ _ _ (@D3 _ _ _ _ _ (@jK _ _ _ _ _ _ _ j0 d8)) (@pQ _ _ _ _ _ _ _ (@D3 _ _ _ _ _ (@jK _ _ _ _ _ _ _ j0 d8)) d8)))))))))))) rfl (.inl rfl))
  (t6 (D7 (G4 R8 (D5 kF (pv 1) (@N8 _ _ _ _ (@pQ _ _ _ _ _ _ _ (@D3 _ _ _ _ _ (@jK _ _ _ _ _ _ _ j0 (@jK _ _ _ _ _ _ _ j0 (@jK _ _ _ _ _ _ _ j0 (@jK _ _ _ _ _ _ _ j0 (@jK _ _ _ _ _ _ _ j0 d8)))))) (@pQ _ _ _ _ _ _ _ (@D3 _ _ _ _ _ (@pQ _ _ _ _ _ _ _ (@D3 _ _ _ _ _ (@jK _ _ _ _ _ _ _ j0 (@jK _ _ _ _ _ _ _ j0 d8))) (@pQ _ _ _ _ _ _ _ (@D3 _ _ _ _ _ (@jK _ _ _ _ _ _ _ j0 (@jK _ _ _ _ _ _ _ j0 d8))) d8))) d8)))) (B9 c1 hr rfl (b7 (pv 0) (b7 j0 d8))) (fun _ _=>rfl)))),?_⟩
 have sH:ak l b H H:=ak.start hl hst
 refine ⟨(by show 0<=i6;decide),fun a0 hna0=>?_⟩
 have ga0:i7 H (n5 H a0 (.tup [])):=i7.new hna0
 have ha0:n5 H a0 (.tup []) a0=some (.tup []):=f7
 have na0:a0≠l:=(sH.ne hna0).symm
 have sJa0:=sH.same ga0
 try dsimp only
 generalize n5 H a0 (.tup [])=Ja0 at ga0 ha0 sJa0
 refine ⟨(by show 0<=i6;decide),fun a1 hna1=>?_⟩
 have ga1:i7 Ja0 (n5 Ja0 a1 (.lst [])):=i7.new hna1
 have ha1:n5 Ja0 a1 (.lst []) a1=some (.lst []):=f7
 have na1:a1≠l:=(sJa0.ne hna1).symm
 have sJa1:=sJa0.same ga1
 try dsimp only
 generalize n5 Ja0 a1 (.lst [])=Ja1 at ga1 ha1 sJa1
 refine ⟨(by show 1<=i6;decide),fun a2 hna2=>?_⟩
 have ga2:i7 Ja1 (n5 Ja1 a2 (.tup [.bl true])):=i7.new hna2
 have ha2:n5 Ja1 a2 (.tup [.bl true]) a2=some (.tup [.bl true]):=f7
 have na2:a2≠l:=(sJa1.ne hna2).symm
 have sJa2:=sJa1.same ga2
 try dsimp only
 generalize n5 Ja1 a2 (.tup [.bl true])=Ja2 at ga2 ha2 sJa2
 refine ⟨(by show 1<=i6;decide),fun a3 hna3=>?_⟩
 have ga3:i7 Ja2 (n5 Ja2 a3 (.lst [.int 1])):=i7.new hna3
 have ha3:n5 Ja2 a3 (.lst [.int 1]) a3=some (.lst [.int 1]):=f7
 have na3:a3≠l:=(sJa2.ne hna3).symm
 have sJa3:=sJa2.same ga3
 try dsimp only
 generalize n5 Ja2 a3 (.lst [.int 1])=Ja3 at ga3 ha3 sJa3
 intro a4 hna4
 have ga4:i7 Ja3 (n5 Ja3 a4 (.dK [(Z8 0,.int 1)])):=i7.new hna4
 have ha4:n5 Ja3 a4 (.dK [(Z8 0,.int 1)]) a4=some (.dK [(Z8 0,.int 1)]):=f7
 have na4:a4≠l:=(sJa3.ne hna4).symm
 have sJa4:=sJa3.same ga4
 try dsimp only
 generalize n5 Ja3 a4 (.dK [(Z8 0,.int 1)])=Ja4 at ga4 ha4 sJa4
 refine ⟨(by show 1<=i6;decide),fun a5 hna5=>?_⟩
 have ga5:i7 Ja4 (n5 Ja4 a5 (.tup [.non])):=i7.new hna5
 have ha5:n5 Ja4 a5 (.tup [.non]) a5=some (.tup [.non]):=f7
 have na5:a5≠l:=(sJa4.ne hna5).symm
 have sJa5:=sJa4.same ga5
 try dsimp only
 generalize n5 Ja4 a5 (.tup [.non])=Ja5 at ga5 ha5 sJa5
 refine ⟨(by show 1<=i6;decide),fun a6 hna6=>?_⟩
 have ga6:i7 Ja5 (n5 Ja5 a6 (.tup [.int 1])):=i7.new hna6
 have ha6:n5 Ja5 a6 (.tup [.int 1]) a6=some (.tup [.int 1]):=f7
 have na6:a6≠l:=(sJa5.ne hna6).symm
 have sJa6:=sJa5.same ga6
 try dsimp only
 generalize n5 Ja5 a6 (.tup [.int 1])=Ja6 at ga6 ha6 sJa6
 refine ⟨(by show 1<=i6;decide),fun a7 hna7=>?_⟩
 have ga7:i7 Ja6 (n5 Ja6 a7 (.tup [.ref a6])):=i7.new hna7
 have ha7:n5 Ja6 a7 (.tup [.ref a6]) a7=some (.tup [.ref a6]):=f7
 have na7:a7≠l:=(sJa6.ne hna7).symm
 have sJa7:=sJa6.same ga7
 try dsimp only
 generalize n5 Ja6 a7 (.tup [.ref a6])=Ja7 at ga7 ha7 sJa7
 refine ⟨_,_,rfl,rfl,⟨by decide,by decide,by decide⟩,?_⟩
 refine ⟨(by show 1<=i6;decide),fun a8 hna8=>?_⟩
 have ga8:i7 Ja7 (n5 Ja7 a8 (.tup [.int 0])):=i7.new hna8
 have ha8:n5 Ja7 a8 (.tup [.int 0]) a8=some (.tup [.int 0]):=f7
 have na8:a8≠l:=(sJa7.ne hna8).symm
 have sJa8:=sJa7.same ga8
 try dsimp only
 generalize n5 Ja7 a8 (.tup [.int 0])=Ja8 at ga8 ha8 sJa8
 refine ⟨(by show 1<=i6;decide),fun a9 hna9=>?_⟩
 have ga9:i7 Ja8 (n5 Ja8 a9 (.tup [.int 21])):=i7.new hna9
 have ha9:n5 Ja8 a9 (.tup [.int 21]) a9=some (.tup [.int 21]):=f7
 have na9:a9≠l:=(sJa8.ne hna9).symm
 have sJa9:=sJa8.same ga9
 try dsimp only
 generalize n5 Ja8 a9 (.tup [.int 21])=Ja9 at ga9 ha9 sJa9
 have ea0:=(((((((((ga1).trans ga2).trans ga3).trans ga4).trans ga5).trans ga6).trans ga7).trans ga8).trans ga9) _ _ ha0
 have ea1:=((((((((ga2).trans ga3).trans ga4).trans ga5).trans ga6).trans ga7).trans ga8).trans ga9) _ _ ha1
 have ea2:=(((((((ga3).trans ga4).trans ga5).trans ga6).trans ga7).trans ga8).trans ga9) _ _ ha2
 have ea3:=((((((ga4).trans ga5).trans ga6).trans ga7).trans ga8).trans ga9) _ _ ha3
 have ea4:=(((((ga5).trans ga6).trans ga7).trans ga8).trans ga9) _ _ ha4
 have ea5:=((((ga6).trans ga7).trans ga8).trans ga9) _ _ ha5
 have ea6:=(((ga7).trans ga8).trans ga9) _ _ ha6
 have ea7:=((ga8).trans ga9) _ _ ha7
 have ea8:=(ga9) _ _ ha8
 have ea9:=(i7.refl _) _ _ ha9
 refine ⟨(by show 18<=i6;decide),fun pl hnpl=>?_⟩
 have gL:i7 Ja9 (n5 Ja9 pl (.lst ([.non,.bl true,.bl false,.int (-1),.int 0,.int 1,.str "",.str "1"]++[.ref a0,.ref a1,.ref a2,.ref a3,.ref a4,.ref a5,.ref a7,.int (10 ^ 29),.ref a8,.ref a9]))):=i7.new hnpl
 have hL:n5 Ja9 pl (.lst ([.non,.bl true,.bl false,.int (-1),.int 0,.int 1,.str "",.str "1"]++[.ref a0,.ref a1,.ref a2,.ref a3,.ref a4,.ref a5,.ref a7,.int (10 ^ 29),.ref a8,.ref a9])) pl=some (.lst ([.non,.bl true,.bl false,.int (-1),.int 0,.int 1,.str "",.str "1"]++[.ref a0,.ref a1,.ref a2,.ref a3,.ref a4,.ref a5,.ref a7,.int (10 ^ 29),.ref a8,.ref a9])):=f7
 have sHL:=sJa9.same gL
 show GI _ _ _ (n5 Ja9 pl (.lst ([.non,.bl true,.bl false,.int (-1),.int 0,.int 1,.str "",.str "1"]++[.ref a0,.ref a1,.ref a2,.ref a3,.ref a4,.ref a5,.ref a7,.int (10 ^ 29),.ref a8,.ref a9])))
 generalize n5 Ja9 pl (.lst ([.non,.bl true,.bl false,.int (-1),.int 0,.int 1,.str "",.str "1"]++[.ref a0,.ref a1,.ref a2,.ref a3,.ref a4,.ref a5,.ref a7,.int (10 ^ 29),.ref a8,.ref a9]))=HL at gL hL sHL
 refine ⟨_,rfl,?_⟩
 refine ⟨(by show 5<=i6;decide),fun b0 hnb0=>?_⟩
 have gb0:i7 HL (n5 HL b0 (.tup [.int 1,.int 1,.int 1,.int 1,.int 1])):=i7.new hnb0
 have hb0:n5 HL b0 (.tup [.int 1,.int 1,.int 1,.int 1,.int 1]) b0=some (.tup [.int 1,.int 1,.int 1,.int 1,.int 1]):=f7
 have nb0:b0≠l:=(sHL.ne hnb0).symm
 have sJb0:=sHL.same gb0
 try dsimp only
 generalize n5 HL b0 (.tup [.int 1,.int 1,.int 1,.int 1,.int 1])=Jb0 at gb0 hb0 sJb0
 refine ⟨(by show 2<=i6;decide),fun b1 hnb1=>?_⟩
 have gb1:i7 Jb0 (n5 Jb0 b1 (.tup [.int 0,.int 0])):=i7.new hnb1
 have hb1:n5 Jb0 b1 (.tup [.int 0,.int 0]) b1=some (.tup [.int 0,.int 0]):=f7
 have nb1:b1≠l:=(sJb0.ne hnb1).symm
 have sJb1:=sJb0.same gb1
 try dsimp only
 generalize n5 Jb0 b1 (.tup [.int 0,.int 0])=Jb1 at gb1 hb1 sJb1
 refine ⟨(by show 2<=i6;decide),fun b2 hnb2=>?_⟩
 have gb2:i7 Jb1 (n5 Jb1 b2 (.tup [.int 0,.int 0])):=i7.new hnb2
 have hb2:n5 Jb1 b2 (.tup [.int 0,.int 0]) b2=some (.tup [.int 0,.int 0]):=f7
 have nb2:b2≠l:=(sJb1.ne hnb2).symm
 have sJb2:=sJb1.same gb2
 try dsimp only
 generalize n5 Jb1 b2 (.tup [.int 0,.int 0])=Jb2 at gb2 hb2 sJb2
 refine ⟨(by show 2<=i6;decide),fun b3 hnb3=>?_⟩
 have gb3:i7 Jb2 (n5 Jb2 b3 (.tup [.ref b1,.ref b2])):=i7.new hnb3
 have hb3:n5 Jb2 b3 (.tup [.ref b1,.ref b2]) b3=some (.tup [.ref b1,.ref b2]):=f7
 have nb3:b3≠l:=(sJb2.ne hnb3).symm
 have sJb3:=sJb2.same gb3
 try dsimp only
 generalize n5 Jb2 b3 (.tup [.ref b1,.ref b2])=Jb3 at gb3 hb3 sJb3
 have eb0:=(((gb1).trans gb2).trans gb3) _ _ hb0
 have eb1:=((gb2).trans gb3) _ _ hb1
 have eb2:=(gb3) _ _ hb2
 have eb3:=(i7.refl _) _ _ hb3
 refine ⟨(by show 2<=i6;decide),fun ph hnph=>⟨pl,ph,[.non,.bl true,.bl false,.int (-1),.int 0,.int 1,.str "",.str "1"]++[.ref a0,.ref a1,.ref a2,.ref a3,.ref a4,.ref a5,.ref a7,.int (10 ^ 29),.ref a8,.ref a9],[.ref b0,.ref b3],rfl,rfl,i7.new hnph _ _ (((((gb0).trans gb1).trans gb2).trans gb3) _ _ hL),f7,(by show 18+2<=i6;decide),fun pz hnpz=>?_⟩⟩
 have gZ:i7 Jb3 (n5 (n5 Jb3 ph (.lst [.ref b0,.ref b3])) pz (.lst (([.non,.bl true,.bl false,.int (-1),.int 0,.int 1,.str "",.str "1"]++[.ref a0,.ref a1,.ref a2,.ref a3,.ref a4,.ref a5,.ref a7,.int (10 ^ 29),.ref a8,.ref a9])++[.ref b0,.ref b3]))):=(i7.new hnph).trans (i7.new hnpz)
 have hZ:n5 (n5 Jb3 ph (.lst [.ref b0,.ref b3])) pz (.lst (([.non,.bl true,.bl false,.int (-1),.int 0,.int 1,.str "",.str "1"]++[.ref a0,.ref a1,.ref a2,.ref a3,.ref a4,.ref a5,.ref a7,.int (10 ^ 29),.ref a8,.ref a9])++[.ref b0,.ref b3])) pz=some (.lst (([.non,.bl true,.bl false,.int (-1),.int 0,.int 1,.str "",.str "1"]++[.ref a0,.ref a1,.ref a2,.ref a3,.ref a4,.ref a5,.ref a7,.int (10 ^ 29),.ref a8,.ref a9])++[.ref b0,.ref b3])):=f7
 have nz:pz≠l:=((sJb3.new hnph).ne hnpz).symm
 have sZ:=sJb3.same gZ
 try dsimp only
 generalize n5 (n5 Jb3 ph (.lst [.ref b0,.ref b3])) pz (.lst (([.non,.bl true,.bl false,.int (-1),.int 0,.int 1,.str "",.str "1"]++[.ref a0,.ref a1,.ref a2,.ref a3,.ref a4,.ref a5,.ref a7,.int (10 ^ 29),.ref a8,.ref a9])++[.ref b0,.ref b3]))=HZ at gZ hZ sZ
 have gA:i7 Ja9 HZ:=(gL.trans ((((gb0).trans gb1).trans gb2).trans gb3)).trans gZ
 have all:∀y∈((([.non,.bl true,.bl false,.int (-1),.int 0,.int 1,.str "",.str "1"]++[.ref a0,.ref a1,.ref a2,.ref a3,.ref a4,.ref a5,.ref a7,.int (10 ^ 29),.ref a8,.ref a9])++[.ref b0,.ref b3]):List V),Tg l HZ y:=fun y hy=>by
  simp only[M3,aF,B6,C3,or_false] at hy
  rcases hy with e|e|e|e|e|e|e|e|e|e|e|e|e|e|e|e|e|e|e|e
  ·rw[e];exact Tg.non _ _
  ·rw[e];exact Tg.bl _ _ _
  ·rw[e];exact Tg.bl _ _ _
  ·rw[e];exact Tg.int _ _ _
  ·rw[e];exact Tg.int _ _ _
  ·rw[e];exact Tg.int _ _ _
  ·rw[e];exact Tg.str _ _ _
  ·rw[e];exact Tg.str _ _ _
  ·rw[e];exact Tg.tup (gA _ _ ea0) na0 (by decide) fun z hz=>by cases hz
  ·rw[e];exact Tg.lst (gA _ _ ea1) na1 fun z hz=>by cases hz
  ·rw[e];exact Tg.tup (gA _ _ ea2) na2 (by decide) fun z hz=>by rw[List.mem_singleton.mp hz];exact (Tg.bl _ _ _).sh
  ·rw[e];exact Tg.lst (gA _ _ ea3) na3 fun z hz=>by rw[List.mem_singleton.mp hz];exact (Tg.int _ _ _).sh.da
  ·rw[e];exact Tg.dct (gA _ _ ea4) na4
  ·rw[e];exact Tg.tup (gA _ _ ea5) na5 (by decide) fun z hz=>by rw[List.mem_singleton.mp hz];exact (Tg.non _ _).sh
  ·rw[e];exact Tg.tup (gA _ _ ea7) na7 (by show 1<=1000;decide) fun z hz=>by
    rw[List.mem_singleton.mp hz]
    exact Sh.tup (gA _ _ ea6) na6 (by decide) fun z' hz'=>by rw[List.mem_singleton.mp hz'];exact (Tg.int _ _ _).sh.da
  ·rw[e];exact Tg.int _ _ _
  ·rw[e];exact Tg.tup (gA _ _ ea8) na8 (by decide) fun z hz=>by rw[List.mem_singleton.mp hz];exact (Tg.int _ _ _).sh
  ·rw[e];exact Tg.tup (gA _ _ ea9) na9 (by decide) fun z hz=>by rw[List.mem_singleton.mp hz];exact (Tg.int _ _ _).sh
  ·rw[e]
   refine Tg.tup (gZ _ _ eb0) nb0 (by decide) fun z hz=>?_
   have:z=.int 1:=by simpa using hz
   rw[this];exact (Tg.int _ _ _).sh
  ·rw[e]
   have zz:∀z∈([.int 0,.int 0]:List V),Da l HZ z:=fun z hz=>by
    have:z=.int 0:=by simpa using hz
    rw[this];exact (Tg.int _ _ _).sh.da
   refine Tg.tup (gZ _ _ eb3) nb3 (by show 2<=1000;decide) fun z hz=>?_
   simp only[B6,C3,or_false] at hz
   rcases hz with e|e
   ·rw[e];exact Sh.tup (gZ _ _ eb1) nb1 (by decide) zz
   ·rw[e];exact Sh.tup (gZ _ _ eb2) nb2 (by decide) zz
 generalize hL20:((([.non,.bl true,.bl false,.int (-1),.int 0,.int 1,.str "",.str "1"]++[.ref a0,.ref a1,.ref a2,.ref a3,.ref a4,.ref a5,.ref a7,.int (10 ^ 29),.ref a8,.ref a9])++[.ref b0,.ref b3]):List V)=L20 at hZ all
 have hlen:L20.length=20:=by rw[<- hL20];rfl
 obtain ⟨_,xz,hxz,okz⟩:=id sZ
 refine ⟨_,rfl,l,20,xz,b,rfl,hxz,okz,by decide,by decide,fun y xI hy okI=>?_⟩
 have sI:=sZ.go okI
 have kI':Kp l HZ (n5 HZ l (.lst [.int xI,.bl b])):=Kp.at
 exact ⟨pz,_,_,L20[y]'(by lia),rfl,rfl,.of (kI' _ _ nz hZ),E3 (f6 _),q _ _ sI ((all _ (K0 _)).kp kI')⟩
end
end G
namespace L2
open PySem PySem.Spec PyProof.Rows
section
variable {X:Cx}{pos:Pos}
noncomputable def JH (i j k:Nat) (ta:TA):TS:=fun D σ H=>ta σ H fun vs H1=>∃v w z,vs=[v,w,z]/\D.nx (((σ.set i (some v)).set j (some w)).set k (some z)) H1
theorem EU {i j k:Nat}{x y z:Str}{a b c:Expr}{ta:TA}{px py pz pt:Pos}{kt k2 pt2} (hc:X.calm=true) (hN:X.N.Nodup) (hi:X.N[i]?=some x) (hj:X.N[j]?=some y) (hk:X.N[k]?=some z) (hij:i≠j) (hik:i≠k) (hjk:j≠k)
  (hx:X.env.scope.names.lookup x=some .local) (hy:X.env.scope.names.lookup y=some .local) (hz:X.env.scope.names.lookup z=some .local) (ha:PA X [a,b,c] ta)
  (hw:qB [.Tuple [.Name x px,.Name y py,.Name z pz] kt pt] (.Tuple [a,b,c] k2 pt2) X.env=pure (some [x,y,z]))
  (hs:BD [.Tuple [.Name x px,.Name y py,.Name z pz] kt pt] (.Tuple [a,b,c] k2 pt2) pos.line X.env=pure false:=by rfl):
  PS X (.Assign [.Tuple [.Name x px,.Name y py,.Name z pz] kt pt] (.Tuple [a,b,c] k2 pt2) pos) (JH i j k ta):=by
 intro pins s σ H D I h
 rw[exec_Assign_arm]
 refine b8 (fA ?_)
 rw[hs]
 refine b8 (d9 ?_)
 rw[if_neg (by decide)]
 refine b8 (Tuple_ (X0 (ha _ pins s σ H _ I h) fun us s1 ⟨vs,H1,I1,r1,q1⟩=>?_))
 obtain ⟨v,w,q,e1,q1⟩:=q1
 subst e1
 obtain ⟨u1,u2,u3,rfl,rv,rw',rq⟩:∃u1 u2 u3,us=[u1,u2,u3]/\Q4 v u1/\Q4 w u2/\Q4 q u3:=by
  cases r1 with
  | cons p q =>
   cases q with
   | cons p' q' =>
    cases q' with
    | cons p'' q'' =>
     cases q''
     exact ⟨_,_,_,rfl,p,p',p''⟩
 refine E4 ?_ (by show 3<=i6;decide)
 have I2:E6 X pins σ H1 { s1 with heap:=s1.heap.push { cls:=.type "tuple",data:=.seq [u1,u2,u3].toArray } }:=I1.kept (t':=s1.toks) fun b o e=>f9 _ e
 rw[hw]
 refine b8 (d9 ?_)
 show m6 (t8 X.prog X.w) X.A (do rule "assign.swapped-stores";let items <- unpackItems (.ref s1.heap.objs.size) 3 none;jE [fun v=>dZ X.env z v,fun v=>dZ X.env y v,fun v=>dZ X.env x v] items.reverse;pure xt) _ _ _
 refine b8 (P1 (b8 (Lr (items:=#[u1,u2,u3]) (I.ok.hd hc) (fC s1.heap _) fun h' hx'=>?_)))
 have I3:=I2.kept (h':=h') (t':=s1.toks) fun b o e=>hx' b o (v8 (j7 e)) e
 show m6 _ _ (jE [fun v=>dZ X.env z v,fun v=>dZ X.env y v,fun v=>dZ X.env x v] [u3,u2,u1] >>= fun _=>pure xt) _ _ _
 refine b8 (aV (dW (cf I3 hN hk (.inl hz) rq (fun s2 I4=>?_) (.inr hz))))
 refine aV (dW (cf I4 hN hj (.inl hy) rw' (fun s3 I5=>?_) (.inr hy)))
 refine aV (dW (cf I5 hN hi (.inl hx) rv (fun s4 I6=>sN (d9 ?_)) (.inr hx)))
 rw[ml (l:=σ.set k (some q)) _ _ (J9 hij),ml (l:=σ) _ _ (J9 hik),ml (l:=σ.set i (some v)) _ _ (J9 hjk)] at I6
 exact ⟨_,H1,I6,q1⟩
end
theorem yk (l:Addr) (v:b9) (n:Nat) (dd:Option Addr) (sl:Array (Option b9)) (t:Tok):
  Eh (bD.«tuple.__mul__» ⟨[.ref l,.int 0 t],[]⟩) (fun _ R s=>s.heap.get? l=some { cls:=.type "tuple",dict:=dd,data:=.seq #[v] n,slots:=sl } /\
   R (.ok (.ret (.ref s.heap.objs.size))) { s with heap:=s.heap.push { cls:=.type "tuple",data:=.seq #[] } }):=
 .of_wp fun prog w A R s h=>by
  obtain ⟨hp,g,d,tk,os⟩:=s;obtain ⟨hl,h⟩:=h
  wp_walk
  exact ⟨_,rfl,h⟩
section
variable {X:Cx}
noncomputable def Kf (K:m9):R2:=fun x y H Q=>∃(a:Addr) (v:V) (k:Nat),x=.ref a/\y=.int k/\H a=some (.tup [v])/\k<=4/\∀p H',i7 H H'->H' p=some (.tup (A7 k v))->Q (.ref p) H'
theorem Fd:jC X (W8 .Mult) (Kf X.K):=by
 intro pins s σ H x y w' u Q I rx ry h
 obtain ⟨a,v,k,rfl,rfl,ha,h4,q⟩:=h
 by_cases hk:k=0
 ·subst hk
  cases rx
  obtain ⟨t,rfl⟩:=ry
  obtain ⟨its,r,p1,_⟩:=I.tuple (show dH X.K H a [v] from .of ha)
  cases r with
  | cons r1 rr =>
   cases rr
   obtain ⟨⟨cls,dd,data,sl⟩,ho,hc,n,hd⟩:=id p1
   simp only at hc hd
   subst hc hd
   refine iV (T:="tuple") (U:="int") (by decide) ⟨_,ho,rfl⟩ (fun s'=>iK s' _ t) cR vd cI ie F.slot_int_index.lookup
    (dq cI (iK s _ t) sT (qS _ _) (ky _ t a _ n dd sl) ⟨ho,rfl,⟨_,ho,rfl⟩,?_⟩)
   refine dq jH ⟨_,ho,rfl⟩ iU (gT _ _) (yk a _ n dd sl t) ⟨ho,?_⟩
   refine ⟨.ref s.heap.objs.size,n5 H s.heap.objs.size (.tup []),I.laid (t':=s.toks) (o:=.tup []) (fun b ob q=>f9 _ q) (i8 _) ?_,rfl,q _ _ (i7.new (I.hok.fresh (i8 _))) f7⟩
   exact ⟨by show 0<=i6;decide,[],.nil,fC _ _⟩
 ·refine zw pins s σ H (.ref a) (.int (k:Int)) w' u Q I rx ry ⟨a,v,(k:Int),rfl,rfl,.of ha,by lia,by lia,fun e=>?_,fun e p hp=>?_⟩
  ·have:k=1:=by lia
   subst this
   exact q a H (i7.refl _) ha
  ·exact q p _ (i7.new hp) (by rw[S0];exact f7)
end
end L2
namespace G
open PySem PySem.Spec PyProof.Rows L2 Mt Md Mq M8
noncomputable def Gi (d e r g:B0):Option Nat->Prop
 | none=>Jm d e r g
 | some i=>qy d e r g i
section
variable {P:j6}{w:r9}{K:m9}{mg:Str->Option b9}{base:Heap}{f:Addr}{fd:D6}{ec:Nat->Addr}{Bs:Addr}
noncomputable def Ci:Sp:=fun vs H Q _=>∃(u v x y:V) (st:Addr) (d e r g:B0),vs=[u,v,x,y,.int 4]/\Dt st H d u/\bN d/\Dt st H e v/\bN e/\Dt st H r x/\Dt st H g y/\∀o H',Gi d e r g o->i7 H H'->Q (CZ o) H'
noncomputable abbrev GV:Stmt:=fE 59
theorem JV:D9 ["_law_one","_law_other","_law_rule_here","_law_draws","_law_most"] ["_law_one","_law_other","_law_rule_here","_law_draws","_law_most"] (A1 GV):=⟨rfl,rfl,rfl,by decide +kernel,rfl,by decide +kernel,by decide +kernel⟩
theorem Ku (F:bT K "_law_word" "_law_word" GV f fd) (B:Bt mg) (c1:V4 P w K mg base 2 "_law_is_urn" ["_law_thing"] eO) (c2:V4 P w K mg base 2 "_law_is_rule" ["_law_kinds","_law_thing"] iY) (c3:V4 P w K mg base 1 "_law_whole" ["_law_thing"] eM):N0 P w K mg base dI 3 f fd ["_law_one","_law_other","_law_rule_here","_law_draws","_law_most"] Ci:=by
 refine F.ok JV (fun vs H Q E h=>?_) (fun cdv A outer s H vs Q E hr h=>?_)
 ·obtain ⟨u,v,x,y,st,d,e,r,g,rfl,_⟩:=h
  rfl
 obtain ⟨u,v,x,y,st,d,e,r,g,rfl,hu,hus,hv,hvs,hx,hy,q⟩:=h
 refine ⟨_,(@m7 _ _ _ _ _ (V6 (PW.pt (pL (bo (ar (B9 c1 hr rfl (@b7 _ _ _ _ _ (pv 0) d8 (by rfl))))) (kz (bo (ar (B9 c1 hr rfl (@b7 _ _ _ _ _ (pv 1) d8 (by rfl)))))))) (@t6 _ _ _ (D7 jh)) K9)
  (@m7 _ _ _ _ _ (V6 (@R7 _ _ _ _ _ _ _ _ jU (u5 D8 rfl B.len C8 (@b7 _ _ _ _ _ (pv 0) d8 (by rfl))) (u5 D8 rfl B.len C8 (@b7 _ _ _ _ _ (pv 1) d8 (by rfl))) (O8 _)) (@t6 _ _ _ (D7 jh)) K9)
  (@m7 _ _ _ _ _ (V6 (bo (ar (B9 c2 hr rfl (@b7 _ _ _ _ _ (u5 D8 rfl B.len C8 (@b7 _ _ _ _ _ (pv 0) d8 (by rfl))) (@b7 _ _ _ _ _ (pv 2) d8 (by rfl)) (by rfl))))) (@t6 _ _ _ (D7 jh)) K9)
  (@t6 _ _ _ (D7 (@G4 _ _ _ _ _ _ _ R8 (@N8 _ _ _ _ (@b7 _ _ _ _ _ kC (@b7 _ _ _ _ _ jh d8 (by rfl)) (by rfl))) (G7 eU rfl B.int jX (@b7 _ _ _ _ _ (Km (ud (B9 (c3.up (by decide)) hr rfl (@b7 _ _ _ _ _ (pv 3) d8 (by rfl)))) (cP (ud (ji iH iH j0 (pv 3) (pv 4))))) d8 (by rfl))) (fun _ _=>rfl))))))),?_⟩
 refine ⟨_,rfl,u,st,d,rfl,hu,hus,fun H1 g1=>⟨_,rfl,?_⟩⟩
 cases hw:dB 20 d with
 | false=>exact V0 (V0 (q (some 0) H1 (.inl ⟨rfl,.inl hw⟩) g1))
 | true =>
  refine W3 ⟨_,rfl,v,st,e,rfl,hv.kp (g1.kp st),hvs,fun H2 g2=>⟨_,rfl,?_⟩⟩
  have g12:=g1.trans g2
  cases hw2:dB 20 e with
  | false=>exact V0 (q (some 0) H2 (.inl ⟨rfl,.inr hw2⟩) g12)
  | true =>
   obtain ⟨ns,e1,l1,l4,_⟩:=eK hw
   subst e1
   obtain ⟨a,e2,_,ha⟩:=hu.di
   subst e2
   obtain ⟨ms,e3,m1,m4,_⟩:=eK hw2
   subst e3
   obtain ⟨b,e4,_,hb⟩:=hv.di
   subst e4
   refine W3 ⟨_,rfl,a,_,rfl,.inr (.of (g12 _ _ ha)),_,rfl,b,_,rfl,.inr (.of (g12 _ _ hb)),rfl,_,rfl,?_⟩
   rw[d6,d6]
   by_cases hl:ns.length=ms.length
   ·rw[decide_eq_true (show V.int (ns.length:Int)=V.int (ms.length:Int) by rw[hl])]
    have hlD:aE (DI ns)=aE (DI ms):=by rw[U5,U5];exact hl
    refine W3 ⟨_,rfl,a,_,rfl,.inr (.of (g12 _ _ ha)),_,rfl,x,st,r,(ns.length:Int),by rw[d6],hx.kp (g12.kp st),by lia,fun H3 g3=>⟨_,rfl,?_⟩⟩
    have g13:=g12.trans g3
    have eR:fi (ns.length:Int) r=fi (aE (DI ns):Int) r:=by rw[U5]
    rw[eR]
    cases hr2:fi (aE (DI ns):Int) r with
    | false=>exact V0 (q (some 1) H3 (.inr (.inr (.inl ⟨rfl,hw,hw2,hlD,hr2⟩))) g13)
    | true =>
     refine W3 ⟨(by show 2<=i6;decide),fun pl hpl=>?_⟩
     have g4:i7 H3 (n5 H3 pl (.lst [.non,.str "number"])):=i7.new hpl
     have hl4:n5 H3 pl (.lst [.non,.str "number"]) pl=some (.lst [.non,.str "number"]):=f7
     try dsimp -proj only
     generalize n5 H3 pl (.lst [.non,.str "number"])=H4 at g4 hl4
     have g14:=g13.trans g4
     refine ⟨_,rfl,y,st,g,rfl,hy.kp (g14.kp st),?_⟩
     cases hwi:Gy g with
     | false=>exact ⟨_,rfl,_,rfl,V0 (.inr ⟨true,rfl,pl,_,_,_,rfl,rfl,.of hl4,rfl,q (some 5) H4 (.inr (.inr (.inr ⟨rfl,hw,hw2,hlD,hr2,Aq hwi⟩))) g14⟩)⟩
     | true =>
      obtain ⟨i,rfl⟩:∃i,g=.int i:=by
       cases g with
       | int i=>exact ⟨i,rfl⟩
       | _=>cases hwi
      have ey:=hy
      unfold Dt at ey
      subst ey
      refine ⟨_,rfl,_,rfl,W3 ⟨_,rfl,_,_,rfl,rfl,_,rfl,?_⟩⟩
      by_cases h0:0<=i
      ·rw[decide_eq_true h0]
       refine V0 ⟨_,rfl,_,_,rfl,rfl,_,rfl,?_⟩
       by_cases h4:i<=4
       ·rw[decide_eq_true h4]
        exact .inr ⟨false,rfl,pl,_,_,_,rfl,rfl,.of hl4,rfl,q none H4 ⟨hw,hw2,hlD,hr2,by show (decide (0<=i)&&decide (i<=4))=true;rw[decide_eq_true h0,decide_eq_true h4];rfl⟩ g14⟩
       ·rw[decide_eq_false h4]
        exact .inr ⟨true,rfl,pl,_,_,_,rfl,rfl,.of hl4,rfl,q (some 5) H4 (.inr (.inr (.inr ⟨rfl,hw,hw2,hlD,hr2,by show (decide (0<=i)&&decide (i<=4))=false;rw[decide_eq_false h4,uQ]⟩))) g14⟩
      ·rw[decide_eq_false h0]
       exact W3 ⟨_,rfl,.inr ⟨true,rfl,pl,_,_,_,rfl,rfl,.of hl4,rfl,q (some 5) H4 (.inr (.inr (.inr ⟨rfl,hw,hw2,hlD,hr2,by show (decide (0<=i)&&decide (i<=4))=false;rw[decide_eq_false h0];rfl⟩))) g14⟩⟩
   ·rw[decide_eq_false (show ¬ V.int (ns.length:Int)=V.int (ms.length:Int) from fun z=>hl (by injection z with z;lia))]
    exact V0 (q (some 8) H2 (.inr (.inl ⟨rfl,hw,hw2,by rw[U5,U5];exact hl⟩)) g12)
noncomputable def Rw (l:Addr) (H:Hp) (r:V):Prop:=∃p u v x y,r=.ref p/\p≠l/\H p=some (.tup [u,v,x,y])/\Sh l H u/\Sh l H v/\Tg l H x/\Da l H y
theorem Rw.kp {l:Addr}{H H':Hp}{r:V} (h:Rw l H r) (k:Kp l H H'):Rw l H' r:=let ⟨p,u,v,x,y,e,n,h1,a,b,c,d⟩:=h;⟨p,u,v,x,y,e,n,k _ _ n h1,a.kp k,b.kp k,c.kp k,d.kp k⟩
noncomputable def Cr:Sp:=fun vs H Q _=>∃(l a b:Addr) (rv:V) (x0:Int) (b0:Bool) (n k:Nat) (us ws:List Int) (rs:List (List Int)),vs=[.ref l,.ref a,.ref b,rv,.int k]/\H l=some (.lst [.int x0,.bl b0])/\lT x0 b0/\Dt l H (DI us) (.ref a)/\Mt.aq n 20 us/\Dt l H (DI ws) (.ref b)/\Mt.aq n 20 ws/\Dt l H (DR rs) rv/\Mt.lU n 5 rs/\1<=n/\n<=4 /\
 ∀D rows H',ak l b0 H H'->D≠l->H' D=some (.lst rows)->rows.length<=9->(∀r∈rows,Rw l H' r)->Q (.ref D) H'
noncomputable abbrev Ht:Stmt:=fE 60
theorem vF:D9 ["_law_state_here","_law_one","_law_other","_law_rule_here","_law_draws","_law_bent","_law_lost","_law_bad","_law_none","_law_more","_law_found"] ["_law_state_here","_law_one","_law_other","_law_rule_here","_law_draws"] (A1 Ht):=⟨rfl,rfl,rfl,by decide +kernel,rfl,by decide +kernel,by decide +kernel⟩
theorem KC (F:bT K "_law_fours" "_law_fours" Ht f fd) (B:Bt mg) (c1:V4 P w K mg base 2 "_law_bent_urn" ["_law_state_here","_law_urn"] Cs) (c2:V4 P w K mg base 2 "_law_odd" ["_law_state_here"] xB) (c3:V4 P w K mg base 1 "_law_take" ["_law_state_here","_law_many"] ba) (c4:V4 P w K mg base 2 "_law_bent_rule" ["_law_state_here","_law_rule_here"] Cu) (c5:V4 P w K mg base 2 "_law_number" ["_law_state_here","_law_most"] mF):N0 P w K mg base dI 3 f fd ["_law_state_here","_law_one","_law_other","_law_rule_here","_law_draws"] Cr:=by
 refine F.ok vF (fun vs H Q E h=>?_) (fun cdv A outer s H vs Q E hr h=>?_)
 ·obtain ⟨l,a,b,rv,x0,b0,n,k,us,ws,rs,rfl,_⟩:=h
  rfl
 obtain ⟨l,a,b,rv,x0,b0,n,k,us,ws,rs,rfl,hl,hst,hu,hU,hw,hW,hv,hR,n1,n4,q⟩:=h
 refine ⟨_,(@m7 _ _ _ _ _ (kB (i:=5) (j:=6) rfl vF.nd rfl rfl (by decide) rfl rfl (@b7 _ _ _ _ _ (@G4 _ _ _ _ _ _ _ R8 (@N8 _ _ _ _ (@b7 _ _ _ _ _ (B9 c1 hr rfl (@b7 _ _ _ _ _ (pv 0) (@b7 _ _ _ _ _ (pv 1) d8 (by rfl)) (by rfl))) (@b7 _ _ _ _ _ (B9 c2 hr rfl (@b7 _ _ _ _ _ (pv 0) d8 (by rfl))) d8 (by rfl)) (by rfl))) (B9 (c3.up (by decide)) hr rfl (@b7 _ _ _ _ _ (pv 0) (@b7 _ _ _ _ _ j0 d8 (by rfl)) (by rfl))) (fun _ _=>rfl)) (@b7 _ _ _ _ _ (B9 c1 hr rfl (@b7 _ _ _ _ _ (pv 0) (@b7 _ _ _ _ _ (pv 2) d8 (by rfl)) (by rfl))) d8 (by rfl)) (by rfl)) rfl)
  (@m7 _ _ _ _ _ (EU (i:=7) (j:=8) (k:=9) rfl vF.nd rfl rfl rfl (by decide) (by decide) (by decide) rfl rfl rfl (@b7 _ _ _ _ _ (B9 c4 hr rfl (@b7 _ _ _ _ _ (pv 0) (@b7 _ _ _ _ _ (pv 3) d8 (by rfl)) (by rfl))) (@b7 _ _ _ _ _ (B9 c5 hr rfl (@b7 _ _ _ _ _ (pv 0) (@b7 _ _ _ _ _ j0 d8 (by rfl)) (by rfl))) (@b7 _ _ _ _ _ (@D5 _ _ _ _ _ _ _ _ jM (pv 2) (@D5 _ _ _ _ _ _ _ _ Fd (@D3 _ _ _ _ _ (@b7 _ _ _ _ _ j0 d8 (by rfl))) (G7 eU rfl B.int jX (@b7 _ _ _ _ _ (df Ge (u5 D8 rfl B.len C8 (@b7 _ _ _ _ _ (pv 2) d8 (by rfl))) j0 (O8 _)) d8 (by rfl))))) d8 (by rfl)) (by rfl)) (by rfl)) rfl)
  (@m7 _ _ _ _ _ (@F9 _ _ 10 _ _ _ _ vF.nd rfl (A2 rfl) (@N8 _ _ _ _ (@b7 _ _ _ _ _ (@D3 _ _ _ _ _ (@b7 _ _ _ _ _ (pv 5) (@b7 _ _ _ _ _ (pv 2) (@b7 _ _ _ _ _ (pv 3) (@b7 _ _ _ _ _ j0 d8 (by rfl)) (by rfl)) (by rfl)) (by rfl))) (@b7 _ _ _ _ _ (@D3 _ _ _ _ _ (@b7 _ _ _ _ _ (pv 1) (@b7 _ _ _ _ _ (pv 6) (@b7 _ _ _ _ _ (pv 3) (@b7 _ _ _ _ _ j0 d8 (by rfl)) (by rfl)) (by rfl)) (by rfl))) (@b7 _ _ _ _ _ (@D3 _ _ _ _ _ (@b7 _ _ _ _ _ (pv 1) (@b7 _ _ _ _ _ (pv 9) (@b7 _ _ _ _ _ (pv 7) (@b7 _ _ _ _ _ (pv 8) d8 (by rfl)) (by rfl)) (by rfl)) (by rfl))) (@b7 _ _ _ _ _ (@D3 _ _ _ _ _ (@b7 _ _ _ _ _ (pv 1) (@b7 _ _ _ _ _ (pv 2) (@b7 _ _ _ _ _ (pv 7) (@b7 _ _ _ _ _ j0 d8 (by rfl)) (by rfl)) (by rfl)) (by rfl))) d8 (by rfl)) (by rfl)) (by rfl)) (by rfl))) (by rfl) (by first|exact .inl rfl|exact .inr rfl))
  (@m7 _ _ _ _ _ (@F9 _ _ 10 _ _ _ _ vF.nd rfl (A2 rfl) (@D5 _ _ _ _ _ _ _ _ kF (pv 10) (@N8 _ _ _ _ (@b7 _ _ _ _ _ (@D3 _ _ _ _ _ (@b7 _ _ _ _ _ (pv 1) (@b7 _ _ _ _ _ (pv 2) (@b7 _ _ _ _ _ (pv 3) (@b7 _ _ _ _ _ (pv 8) d8 (by rfl)) (by rfl)) (by rfl)) (by rfl))) (@b7 _ _ _ _ _ (@D3 _ _ _ _ _ (@b7 _ _ _ _ _ (pv 5) (@b7 _ _ _ _ _ (pv 6) (@b7 _ _ _ _ _ (pv 7) (@b7 _ _ _ _ _ (pv 8) d8 (by rfl)) (by rfl)) (by rfl)) (by rfl))) (@b7 _ _ _ _ _ (@D3 _ _ _ _ _ (@b7 _ _ _ _ _ (pv 9) (@b7 _ _ _ _ _ (pv 6) (@b7 _ _ _ _ _ (pv 7) (@b7 _ _ _ _ _ (pv 8) d8 (by rfl)) (by rfl)) (by rfl)) (by rfl))) d8 (by rfl)) (by rfl)) (by rfl)))) (by rfl) (by first|exact .inl rfl|exact .inr rfl))
  (@t6 _ _ _ (D7 (@D5 _ _ _ _ _ _ _ _ kF (pv 10) (@N8 _ _ _ _ (@b7 _ _ _ _ _ (@D3 _ _ _ _ _ (@b7 _ _ _ _ _ (pv 1) (@b7 _ _ _ _ _ (pv 2) (@b7 _ _ _ _ _ (pv 7) (@b7 _ _ _ _ _ (pv 8) d8 (by rfl)) (by rfl)) (by rfl)) (by rfl))) (@b7 _ _ _ _ _ (@D3 _ _ _ _ _ (@b7 _ _ _ _ _ (pv 1) (@b7 _ _ _ _ _ (@Q5 _ _ _ _ _ _ _ _ _ _ tG (pv 2) W0 (V9 (CS xv j0))) (@b7 _ _ _ _ _ (pv 7) (@b7 _ _ _ _ _ (pv 8) d8 (by rfl)) (by rfl)) (by rfl)) (by rfl))) d8 (by rfl)) (by rfl)))))))))),?_⟩
 have s0:ak l b0 H H:=ak.start hl hst
 obtain ⟨a',e,na,ha⟩:=hu.di
 cases e
 obtain ⟨b',e,nb,hb⟩:=hw.di
 cases e
 have lu:=hU.len
 have lw:=hW.len
 refine ⟨_,rfl,_,rfl,l,a,x0,b0,us,rfl,hl,hst,ha,by lia,by lia,fun v1 H1 s1 t1=>?_⟩
 obtain ⟨_,x1,hx1,ok1⟩:=id s1
 refine ⟨_,rfl,l,x1,b0,rfl,hx1,ok1,fun v2 H2 s2 t2=>⟨(by show 2<=i6;decide),fun pb hnpb=>?_⟩⟩
 have s12:=s1.trans s2
 have g3:i7 H2 (n5 H2 pb (.lst [v1,v2])):=i7.new hnpb
 have hpb:n5 H2 pb (.lst [v1,v2]) pb=some (.lst [v1,v2]):=f7
 have npb:pb≠l:=(s12.ne hnpb).symm
 have s3:=s12.same g3
 try dsimp -proj only
 generalize n5 H2 pb (.lst [v1,v2])=H3 at g3 hpb s3
 obtain ⟨_,x3,hx3,ok3⟩:=id s3
 refine ⟨_,rfl,l,2,x3,b0,rfl,hx3,ok3,by decide,by decide,fun y3 x4 hy3 ok4=>?_⟩
 have s4:=s3.go ok4
 have k4:Kp l H3 (n5 H3 l (.lst [.int x4,.bl b0])):=Kp.at
 try dsimp -proj only
 generalize n5 H3 l (.lst [.int x4,.bl b0])=H4 at s4 k4
 obtain ⟨vbe,hvbe,tbe⟩:∃vbe,([v1,v2]:List V)[y3]?=some vbe/\Tg l H4 vbe:=by
  have hy':y3<2:=by lia
  match y3,hy' with
  | 0,_=>exact ⟨v1,rfl,((t1.kp s2.1).kp (g3.kp l)).kp k4⟩
  | 1,_=>exact ⟨v2,rfl,(t2.kp (g3.kp l)).kp k4⟩
 refine ⟨pb,_,_,_,rfl,rfl,.of (k4 _ _ npb hpb),E3 hvbe,?_⟩
 obtain ⟨_,x5,hx5,ok5⟩:=id s4
 refine ⟨_,rfl,_,rfl,l,b,x5,b0,ws,rfl,hx5,ok5,s4.1 _ _ nb hb,by lia,by lia,fun vlo H5 s5 tlo=>⟨_,_,rfl,?_⟩⟩
 have s45:=s4.trans s5
 obtain ⟨_,x6,hx6,ok6⟩:=id s45
 refine ⟨_,rfl,_,rfl,l,rv,x6,b0,n,rs,rfl,hx6,ok6,hv.kp s45.1,hR,n1,n4,fun vba H6 s6 tba=>?_⟩
 have s46:=s45.trans s6
 obtain ⟨_,x7,hx7,ok7⟩:=id s46
 refine ⟨_,rfl,l,x7,b0,rfl,hx7,ok7,fun vno H7 dno s7 hno _=>?_⟩
 have s47:=s46.trans s7
 have hb7:=s47.1 _ _ nb hb
 refine ⟨_,rfl,(by show 1<=i6;decide),fun p8 hp8=>?_⟩
 have g8:i7 H7 (n5 H7 p8 (.tup [.int 1])):=i7.new hp8
 have h88:n5 H7 p8 (.tup [.int 1]) p8=some (.tup [.int 1]):=f7
 try dsimp -proj only
 generalize n5 H7 p8 (.tup [.int 1])=H8 at g8 h88
 have hb8:=g8 _ _ hb7
 obtain ⟨kk,ekk,hkk⟩:∃kk:Nat,V.int (if decide (((ws.map V.int).length:Int)<4)=true then (1:Int) else 0)=V.int (kk:Int)/\kk<=1:=by
  split
  ·exact ⟨1,rfl,by decide⟩
  ·exact ⟨0,rfl,by decide⟩
 refine ⟨_,rfl,b,_,rfl,.inr (.of hb8),_,_,rfl,rfl,.inr ⟨_,rfl,p8,.int 1,kk,rfl,ekk,h88,by lia,fun p9 H9 g9 hp9=>?_⟩⟩
 refine ⟨b,p9,_,_,rfl,rfl,g9 _ _ hb8,hp9,by rw[d6,P0];lia,fun p10 H10 g10 hp10=>⟨_,_,_,rfl,?_⟩⟩
 have g7a:i7 H7 H10:=(g8.trans g9).trans g10
 have sa:=s47.same g7a
 have ka:Kp l H7 H10:=g7a.kp l
 obtain ⟨_,xa,hxa,oka⟩:=id sa
 have nel:∀{p:Addr}{zs:List V}{H':Hp},i7 H10 H'->H' p=some (.tup zs)->p≠l:=fun {p zs H'} g h z=>by rw[z,g _ _ hxa] at h;cases h
 have em:(ws.map V.int)++A7 kk (V.int 1)=(ws++A7 kk 1).map V.int:=by rw[A3,Ei]
 rw[em] at hp10
 have U1:Sh l H10 (.ref a):=⟨DI us,Dt.mkI na (sa.1 _ _ na ha),fg (by lia)⟩
 have W1:Sh l H10 (.ref b):=⟨DI ws,Dt.mkI nb (sa.1 _ _ nb hb),fg (by lia)⟩
 have M1:Sh l H10 (.ref p10):=⟨DI (ws++A7 kk 1),Dt.mkI (nel (i7.refl _) hp10) hp10,fg (by rw[v9,P0];lia)⟩
 have B1:Sh l H10 vbe:=(((tbe.kp s5.1).kp s6.1).kp s7.1 |>.kp ka).sh
 have L1:Sh l H10 vlo:=(((tlo.kp s6.1).kp s7.1).kp ka).sh
 have R1:Tg l H10 rv:=⟨DR rs,hv.kp sa.1,vt (by have:=hR.len;lia),rK hR (by lia)⟩
 have X1:Tg l H10 vba:=(tba.kp s7.1).kp ka
 have N1:Da l H10 vno:=⟨dno,hno.kp ka⟩
 have O1:Da l H10 (.int 1):=⟨_,Dt.int _ _ _⟩
 have row:∀{p:Addr}{u v x y:V}{H' H'':Hp},i7 H10 H'->H' p=none->i7 (n5 H' p (.tup [u,v,x,y])) H''->Sh l H10 u->Sh l H10 v->Tg l H10 x->Da l H10 y->Rw l H'' (.ref p):=fun {p u v x y H' H''} g hp g2 su sv tx dy=>by
  have g3:=(g.trans (i7.new (o:=.tup [u,v,x,y]) hp)).trans g2
  have h3:=g2 _ _ (f7 (H:=H') (a:=p) (o:=.tup [u,v,x,y]))
  exact ⟨p,u,v,x,y,rfl,nel g3 h3,h3,su.kp (g3.kp l),sv.kp (g3.kp l),tx.kp (g3.kp l),dy.kp (g3.kp l)⟩
 refine ⟨_,rfl,_,rfl,_,rfl,(by show 4<=i6;decide),fun q1 hq1=>⟨_,rfl,_,rfl,_,rfl,(by show 4<=i6;decide),fun q2 hq2=>⟨_,rfl,_,rfl,_,rfl,_,rfl,(by show 4<=i6;decide),fun q3 hq3=>⟨_,rfl,_,rfl,_,rfl,(by show 4<=i6;decide),fun q4 hq4=>⟨(by show 4<=i6;decide),fun q5 hq5=>?_⟩⟩⟩⟩⟩
 have i1:=i7.new (o:=.tup [vbe,.ref b,rv,.int 1]) hq1
 have i2:=i7.new (o:=.tup [.ref a,vlo,rv,.int 1]) hq2
 have i3:=i7.new (o:=.tup [.ref a,.ref p10,vba,vno]) hq3
 have i4:=i7.new (o:=.tup [.ref a,.ref b,vba,.int 1]) hq4
 have i5:=i7.new (o:=.lst [.ref q1,.ref q2,.ref q3,.ref q4]) hq5
 have w1:=row (i7.refl _) hq1 (i2.trans (i3.trans (i4.trans i5))) B1 W1 R1 O1
 have w2:=row i1 hq2 (i3.trans (i4.trans i5)) U1 L1 R1 O1
 have w3:=row (i1.trans i2) hq3 (i4.trans i5) U1 M1 X1 N1
 have w4:=row (i1.trans (i2.trans i3)) hq4 i5 U1 W1 X1 O1
 have gq:=i1.trans (i2.trans (i3.trans (i4.trans i5)))
 have hq:n5 (n5 (n5 (n5 (n5 H10 q1 (.tup [vbe,.ref b,rv,.int 1])) q2 (.tup [.ref a,vlo,rv,.int 1])) q3 (.tup [.ref a,.ref p10,vba,vno])) q4 (.tup [.ref a,.ref b,vba,.int 1])) q5 (.lst [.ref q1,.ref q2,.ref q3,.ref q4]) q5=some (.lst [.ref q1,.ref q2,.ref q3,.ref q4]):=f7
 try dsimp -proj only
 generalize n5 (n5 (n5 (n5 (n5 H10 q1 (.tup [vbe,.ref b,rv,.int 1])) q2 (.tup [.ref a,vlo,rv,.int 1])) q3 (.tup [.ref a,.ref p10,vba,vno])) q4 (.tup [.ref a,.ref b,vba,.int 1])) q5 (.lst [.ref q1,.ref q2,.ref q3,.ref q4])=Hq at gq hq w1 w2 w3 w4
 clear hq1 hq2 hq3 hq4 hq5 i1 i2 i3 i4 i5
 refine ⟨_,rfl,_,rfl,_,rfl,_,rfl,_,rfl,(by show 4<=i6;decide),fun q6 hq6=>⟨_,rfl,_,rfl,_,rfl,_,rfl,(by show 4<=i6;decide),fun q7 hq7=>⟨_,rfl,_,rfl,_,rfl,_,rfl,(by show 4<=i6;decide),fun q8 hq8=>⟨(by show 3<=i6;decide),fun q9 hq9=>?_⟩⟩⟩⟩
 have i1:=i7.new (o:=.tup [.ref a,.ref b,rv,vno]) hq6
 have i2:=i7.new (o:=.tup [vbe,vlo,vba,vno]) hq7
 have i3:=i7.new (o:=.tup [.ref p10,vlo,vba,vno]) hq8
 have i4:=i7.new (o:=.lst [.ref q6,.ref q7,.ref q8]) hq9
 have gr:=i1.trans (i2.trans (i3.trans i4))
 have hqr:=gr _ _ hq
 have hr9:n5 (n5 (n5 (n5 Hq q6 (.tup [.ref a,.ref b,rv,vno])) q7 (.tup [vbe,vlo,vba,vno])) q8 (.tup [.ref p10,vlo,vba,vno])) q9 (.lst [.ref q6,.ref q7,.ref q8]) q9=some (.lst [.ref q6,.ref q7,.ref q8]):=f7
 refine ⟨q5,q9,_,_,rfl,rfl,hqr,hr9,(by show 7<=i6;decide),fun qa hqa=>?_⟩
 have i5:=i7.new (o:=.lst ([.ref q1,.ref q2,.ref q3,.ref q4]++[.ref q6,.ref q7,.ref q8])) hqa
 have w5:=row gq hq6 (i2.trans (i3.trans (i4.trans i5))) U1 W1 R1 N1
 have w6:=row (gq.trans i1) hq7 (i3.trans (i4.trans i5)) B1 L1 X1 N1
 have w7:=row (gq.trans (i1.trans i2)) hq8 (i4.trans i5) M1 L1 X1 N1
 have gs:=gr.trans i5
 have hqa':=f7 (H:=n5 (n5 (n5 (n5 Hq q6 (.tup [.ref a,.ref b,rv,vno])) q7 (.tup [vbe,vlo,vba,vno])) q8 (.tup [.ref p10,vlo,vba,vno])) q9 (.lst [.ref q6,.ref q7,.ref q8])) (a:=qa) (o:=.lst ([.ref q1,.ref q2,.ref q3,.ref q4]++[.ref q6,.ref q7,.ref q8]))
 try dsimp -proj only
 generalize n5 (n5 (n5 (n5 (n5 Hq q6 (.tup [.ref a,.ref b,rv,vno])) q7 (.tup [vbe,vlo,vba,vno])) q8 (.tup [.ref p10,vlo,vba,vno])) q9 (.lst [.ref q6,.ref q7,.ref q8])) qa (.lst ([.ref q1,.ref q2,.ref q3,.ref q4]++[.ref q6,.ref q7,.ref q8]))=Hr at gs hqa' w5 w6 w7
 clear hq6 hq7 hq8 hq9 hqa i1 i2 i3 i4 i5 gr hqr hr9
 have gt:i7 H10 Hr:=gq.trans gs
 refine ⟨_,rfl,_,rfl,_,rfl,_,rfl,_,rfl,(by show 4<=i6;decide),fun qb hqb=>⟨_,rfl,_,rfl,_,rfl,_,rfl,b,ws.map V.int,rfl,i7.new hqb _ _ (gt _ _ (g10 _ _ (g9 _ _ hb8))),fun qc Hc gc hqc=>⟨_,rfl,_,rfl,(by show 4<=i6;decide),fun qd hqd=>⟨(by show 2<=i6;decide),fun qe hqe=>?_⟩⟩⟩⟩
 have i1:=i7.new (o:=.tup [.ref a,.ref b,vba,vno]) hqb
 have i3:=i7.new (o:=.tup [.ref a,.ref qc,vba,vno]) hqd
 have i4:=i7.new (o:=.lst [.ref qb,.ref qd]) hqe
 have gu:i7 Hr (n5 (n5 Hc qd (.tup [.ref a,.ref qc,vba,vno])) qe (.lst [.ref qb,.ref qd])):=(i1.trans gc).trans (i3.trans i4)
 have hce:n5 (n5 Hc qd (.tup [.ref a,.ref qc,vba,vno])) qe (.lst [.ref qb,.ref qd]) qe=some (.lst [.ref qb,.ref qd]):=f7
 refine ⟨qa,qe,_,_,rfl,rfl,gu _ _ hqa',hce,(by show 9<=i6;decide),fun qf hqf=>?_⟩
 have i5:=i7.new (o:=.lst (([.ref q1,.ref q2,.ref q3,.ref q4]++[.ref q6,.ref q7,.ref q8])++[.ref qb,.ref qd])) hqf
 have w8:=row gt hqb (gc.trans (i3.trans (i4.trans i5))) U1 W1 X1 N1
 have gc10:i7 H10 Hc:=gt.trans (i1.trans gc)
 have C1:Sh l Hc (.ref qc):=(Tg.tup hqc (nel gc10 hqc) (n6 (jo _ _ _) (by rw[d6];lia)) fun x hx=>by
  have hx':x∈ws.map V.int:=by
   unfold kJ at hx
   exact M6 (C9 hx)
  obtain ⟨z,_,rfl⟩:=List.mem_map.mp hx'
  exact ⟨_,Dt.int _ _ _,fun ds e=>by cases e⟩).sh
 have gfin:i7 H10 (n5 (n5 (n5 Hc qd (.tup [.ref a,.ref qc,vba,vno])) qe (.lst [.ref qb,.ref qd])) qf (.lst (([.ref q1,.ref q2,.ref q3,.ref q4]++[.ref q6,.ref q7,.ref q8])++[.ref qb,.ref qd]))):=gt.trans (gu.trans i5)
 have w9:Rw l (n5 (n5 (n5 Hc qd (.tup [.ref a,.ref qc,vba,vno])) qe (.lst [.ref qb,.ref qd])) qf (.lst (([.ref q1,.ref q2,.ref q3,.ref q4]++[.ref q6,.ref q7,.ref q8])++[.ref qb,.ref qd]))) (.ref qd):=by
  have h3:=(i4.trans i5) _ _ (f7 (H:=Hc) (a:=qd) (o:=.tup [.ref a,.ref qc,vba,vno]))
  have g3:=gfin.kp l
  exact ⟨qd,_,_,_,_,rfl,nel gfin h3,h3,U1.kp g3,C1.kp ((i3.trans (i4.trans i5)).kp l),X1.kp g3,N1.kp g3⟩
 have gv:Kp l Hq _:=(gs.trans (gu.trans i5)).kp l
 have gw:Kp l Hr _:=(gu.trans i5).kp l
 have nf:qf≠l:=fun z=>by
  have:=(gt.trans gu) _ _ hxa
  rw[<- z,hqf] at this;cases this
 refine q qf _ _ (sa.same gfin) nf f7 (by show 9<=9;decide) fun r hr=>?_
 simp only[M3,aF,B6,C3,or_false] at hr
 rcases hr with rfl|rfl|rfl|rfl|rfl|rfl|rfl|rfl|rfl
 ·exact w1.kp gv
 ·exact w2.kp gv
 ·exact w3.kp gv
 ·exact w4.kp gv
 ·exact w5.kp gw
 ·exact w6.kp gw
 ·exact w7.kp gw
 ·exact w8
 ·exact w9
end
theorem tW {α β:Type}{F:α->β->Prop}{l:List α}{m:List β} (h:ee F l m):∀{i:Nat}{b:β},m[i]?=some b->∃a,l[i]?=some a/\F a b:=by
 induction h with
 | nil=>intro i b e;simp at e
 | @cons a b' l m r _ ih =>
  intro i b e
  cases i with
  | zero=>cases e;exact ⟨a,rfl,r⟩
  | succ i=>simpa using ih (i:=i) (b:=b) (by simpa using e)
noncomputable def R2 (g:List Int->List Int) (H:Hp):F7->List Addr->Prop:=ee fun p a=>∃c q,H a=some (.tup [.ref c,.ref q])/\H c=some (.tup ((g p.1).map V.int))/\H q=some (.tup ((fr p.2).map V.int))
variable {g:List Int->List Int}{T:F7}
theorem R2.mono {H H':Hp}{as:List Addr} (h:R2 g H T as) (t:∀a ys,H a=some (.tup ys)->H' a=some (.tup ys)):R2 g H' T as :=
 Paired.mapP h fun p x ⟨c,q,h1,h2,h3⟩=>⟨c,q,t _ _ h1,t _ _ h2,t _ _ h3⟩
noncomputable def mQ (g:List Int->List Int) (T:F7) (k:Nat):Rat:=dC (T.map fun p=>Mt.cj (g p.1) k*p.2)
noncomputable def yq (g:List Int->List Int) (T:F7) (n:Nat):List Rat:=(R0 n).map (mQ g T)
theorem lG {n:Nat}:(yq g T n).length=n:=by unfold yq;rw[d6,EF]
theorem pY {n:Nat}:yq g T (n+1)=yq g T n++[mQ g T n]:=by unfold yq;rw[List.range_succ,A3];rfl
section
variable {P:j6}{w:r9}{K:m9}{mg:Str->Option b9}{base:Heap}{f:Addr}{fd:D6}{ec:Nat->Addr}{Bs:Addr}
noncomputable def Cp:Sp:=fun vs H Q _=>∃(D:Addr) (k n m N E:Nat) (T:F7) (as:List Addr) (g:List Int->List Int),vs=[.ref D,.int k]/\H D=some (.lst (as.map V.ref))/\R2 g H T as/\(∀p∈T,aq n m (g p.1))/\m<=50/\n<=4/\k<n/\bU N E T/\T.length<128/\0<N/\N<=2 ^ 1800/\E<=2 ^ 80 /\
 ∀r H',i7 H H'->H' r=some (.tup ((fr (mQ g T k)).map V.int))->Q (.ref r) H'
noncomputable abbrev Hh:Stmt:=fE 35
theorem JX:D9 ["behind","kind"] ["behind","kind"] (A1 Hh):=⟨rfl,rfl,rfl,by decide +kernel,rfl,by decide +kernel,by decide +kernel⟩
theorem KA (F:bT K "mean_share" "mean_share" Hh f fd) (c1:V4 P w K mg base 4 "total" ["fractions"] oY) (c2:V4 P w K mg base 3 "times" ["one","other"] dD) (c3:V4 P w K mg base 3 "share" ["urn","kind"] lp):N0 P w K mg base dI 5 f fd ["behind","kind"] Cp:=by
 refine F.ok JX (fun vs H Q E h=>?_) (fun cdv A outer s H vs Q E hr h=>?_)
 ·obtain ⟨D,k,n,m,N,E,T,as,g,rfl,_⟩:=h
  rfl
 obtain ⟨D,k,n,m,N,En,T,as,g,rfl,hD,hB,hK,hm,n4,hk,hE,hl,hN0,hN,hEn,q⟩:=h
 refine ⟨_,t6 (D7 (B9 c1 hr rfl (b7 (N4 (N:=["urn","so_likely","kind"]) (ix:=[none,none,some 1]) (ifs:=[]) (tc:=S1) rfl (dc (pv 0))
   (fun s H ex=>qX (K:=K) (n:=2) rfl rfl (G0 (aj (i:=0) (by decide +kernel) rfl (A2 rfl) (.inr rfl)) (G0 (aj (i:=1) (by decide +kernel) rfl (A2 rfl) (.inr rfl)) Z3))) (fun s H ex=>M4)
   (fun s H ex=>B9 (c2.up (by decide)) hr rfl (b7 (B9 (c3.up (by decide)) hr rfl (b7 (pv 0) (b7 (pv 2) d8))) (b7 (pv 1) d8))) rfl (by decide +kernel) (by rfl) (by rfl) (fun _=>rfl)) d8))),?_⟩
 have hNL:LL*N<=2 ^ 2100:=by
  have:(2:Nat) ^ 2100=2 ^ 300*2 ^ 1800:=by rw[<- K7]
  rw[this];exact C7 wM hN
 have hlen:T.length=as.length:=U0 hB
 refine ⟨_,rfl,D,rfl,⟨_,.of hD⟩,?_⟩
 refine Bk (K:=K) (a:=D) (xs:=as.map V.ref) (sz (by rw[d6];lia)) (fun i zs H2=>i7 H H2/\i<=T.length/\mh H2 ((T.take i).map fun p=>Mt.cj (g p.1) k*p.2) zs) ⟨i7.refl H,u9 _,trivial⟩ (fun i zs H2 h=>?_) (fun i zs H2 _ h=>.of (h.1 _ _ hD)) ⟨rfl,rfl⟩ (fun i zs H2 x hx h=>?_) (fun zs H2 h=>?_)
 ·rw[h.2.2.len,d6,y7]
  have:=h.2.1
  lia
 ·obtain ⟨g2,hi,hF⟩:=h
  rw[A4,cF] at hx
  obtain ⟨r,hr',rfl⟩:=hx
  obtain ⟨p,hp,ka,qa,h1,h2,h3⟩:=tW hB hr'
  have hil:=(List.getElem?_eq_some_iff.mp hp).1
  have hku:=hK p (C5 hp)
  have hv:=hE p (C5 hp)
  refine ⟨r,.ref ka,.ref qa,rfl,.of (g2 _ _ h1),_,rfl,_,rfl,ka,n,m,g p.1,k,rfl,g2 _ _ h2,hku,n4,by lia,hk,fun p5 H5 g5 hp5=>?_⟩
  have d1:Bd 1880 p.2:=hv.bd hN0 (by
   have:(2:Nat) ^ 1880=2 ^ 1800*2 ^ 80:=by rw[<- K7]
   rw[this];exact C7 hN hEn) (n6 hN (C6 (by decide) (by decide)))
  refine ⟨_,rfl,p5,qa,Mt.cj (g p.1) k,p.2,12,1880,rfl,hp5,g5 _ _ (g2 _ _ h3),Rat.num_nonneg.mpr (vz hku k),Rat.num_nonneg.mpr hv.nn,vA hku n4 (by lia) k,d1,by decide,fun p6 H6 g6 hp6=>⟨g2.trans (g5.trans g6),hil,?_⟩⟩
  rw[D2,hp,A3]
  exact mh.snoc ⟨p6,rfl,hp6⟩ (hF.mono fun a xs e=>g6 _ _ (g5 _ _ e))
 ·obtain ⟨g2,_,hF⟩:=h
  intro p hp
  rw[d6,<- hlen,D4] at hF
  have g3:i7 H2 (n5 H2 p (.lst zs)):=i7.new hp
  have hp3:n5 H2 p (.lst zs) p=some (.lst zs):=f7
  generalize n5 H2 p (.lst zs)=H3 at g3 hp3
  refine ⟨p,zs,T.map (fun p=>Mt.cj (g p.1) k*p.2),LL*N,En,2190,rfl,hp3,hF.mono fun a xs e=>g3 _ _ e,fun x hx=>?_,cG qv hN0,?_,n6 hNL (C6 (by decide) (by decide)),by decide,fun r H4 g4 hr4=>?_⟩
  ·obtain ⟨p,hp,e⟩:=List.mem_map.mp hx
   subst e
   exact ((vw (hK p hp) n4 hm k).mul (hE p hp)).mono (by lia)
  ·have:(2:Nat) ^ 2190=2 ^ 2100*(2 ^ 80*2 ^ 10):=by rw[<- K7,<- K7]
   rw[this]
   refine C7 hNL ?_
   rw[d6]
   have:En*T.length+En=En*(T.length+1):=by rw[V5,rB]
   rw[this]
   exact C7 hEn (by show _<=1024;lia)
  ·exact q r H4 ((g2.trans g3).trans g4) hr4
noncomputable def Ss (n:Nat) (T:F7) (H:Hp) (p:Addr):Prop:=∃x y xs ys,H p=some (.tup [.ref x,.ref y])/\H x=some (.tup xs)/\mh H (yq (aJ n) T n) xs/\H y=some (.tup ys)/\mh H (yq (aK n) T n) ys
noncomputable def GP:Sp:=fun vs H Q _=>∃(st a b:Addr) (v:V) (n k:Nat) (us ws:List Int) (rs:List (List Int)),vs=[.ref a,.ref b,v,.int k]/\Ln st H n us ws rs k a b v /\
 ∀p T' H',i7 H H'->T'.Perm (tw n rs k us ws)->qu T'->Ss n T' H' p->Q (.ref p) H'
noncomputable def vn (ec:Nat->Addr):Sp:=fun vs H Q E=>Lb ec vs H E ∨ GP vs H Q E
noncomputable abbrev GX:Stmt:=fE 41
theorem zh:D9 ["one","other","rule","draws","behind","firsts","seconds"] ["one","other","rule","draws"] (A1 GX):=⟨rfl,rfl,rfl,by decide +kernel,rfl,by decide +kernel,by decide +kernel⟩
theorem Kx (F:bT K "two_shares" "two_shares" GX f fd) (B:Bt mg) (c1:fU P w K mg base 7 "two_stands" ["one","other","rule","draws"] (Cj ec)) (c2:V4 P w K mg base 5 "mean_share" ["behind","kind"] Cp):N0 P w K mg base (kT P w) 8 f fd ["one","other","rule","draws"] (vn ec):=by
 refine F.okX zh (fun vs H Q E h=>?_) (fun cdv A outer s H vs Q E hr h=>?_)
 ·rcases h with ⟨st,u,v,x,y,d,e,r,g,i,rfl,_⟩|⟨st,a,b,v,n,k,us,ws,rs,rfl,_⟩
  ·rfl
  ·rfl
 refine ⟨_,(@m7 _ _ _ _ _ (@F9 _ _ 4 _ _ _ _ zh.nd rfl (A2 rfl) (cm c1 hr rfl fJ (@b7 _ _ _ _ _ (pv 0) (@b7 _ _ _ _ _ (pv 1) (@b7 _ _ _ _ _ (pv 2) (@b7 _ _ _ _ _ (pv 3) d8 (by rfl)) (by rfl)) (by rfl)) (by rfl))) (by rfl) (by first|exact .inl rfl|exact .inr rfl))
  (qI.nox (@m7 _ _ _ _ _ (@F9 _ _ 5 _ _ _ _ zh.nd rfl (gH rfl) (N4 (N:=["first","second","so_likely"]) (ix:=[none,none,none]) (ifs:=[]) (tc:=S1) rfl (dc (pv 4))
   (fun s H ex=>qX (K:=K) (n:=3) rfl rfl (G0 (aj (i:=0) (by decide +kernel) rfl (A2 rfl) (.inr rfl)) (G0 (aj (i:=1) (by decide +kernel) rfl (A2 rfl) (.inr rfl)) (G0 (aj (i:=2) (by decide +kernel) rfl (A2 rfl) (.inr rfl)) Z3)))) (fun s H ex=>M4) (fun s H ex=>(@D3 _ _ _ _ _ (@b7 _ _ _ _ _ (pv 0) (@b7 _ _ _ _ _ (pv 2) d8 (by rfl)) (by rfl)))) rfl (by decide +kernel) (by rfl) (by rfl) (fun _=>rfl)) (by rfl) (by first|exact .inl rfl|exact .inr rfl))
  (@m7 _ _ _ _ _ (@F9 _ _ 6 _ _ _ _ zh.nd rfl (gH rfl) (N4 (N:=["first","second","so_likely"]) (ix:=[none,none,none]) (ifs:=[]) (tc:=S1) rfl (dc (pv 4))
   (fun s H ex=>qX (K:=K) (n:=3) rfl rfl (G0 (aj (i:=0) (by decide +kernel) rfl (A2 rfl) (.inr rfl)) (G0 (aj (i:=1) (by decide +kernel) rfl (A2 rfl) (.inr rfl)) (G0 (aj (i:=2) (by decide +kernel) rfl (A2 rfl) (.inr rfl)) Z3)))) (fun s H ex=>M4) (fun s H ex=>(@D3 _ _ _ _ _ (@b7 _ _ _ _ _ (pv 1) (@b7 _ _ _ _ _ (pv 2) d8 (by rfl)) (by rfl)))) rfl (by decide +kernel) (by rfl) (by rfl) (fun _=>rfl)) (by rfl) (by first|exact .inl rfl|exact .inr rfl))
  (@t6 _ _ _ (D7 (@D3 _ _ _ _ _ (@b7 _ _ _ _ _ (G7 L5 rfl B.tuple J6 (@b7 _ _ _ _ _ (N4 (N:=["kind","firsts"]) (ix:=[none,some 5]) (ifs:=[]) (tc:=S1) rfl (P2 rfl B.range (@b7 _ _ _ _ _ (u5 D8 rfl B.len C8 (@b7 _ _ _ _ _ (pv 0) d8 (by rfl))) d8 (by rfl)))
   (fun s H ex=>aj (i:=0) (by decide +kernel) rfl (A2 rfl) (.inr rfl)) (fun s H ex=>M4) (fun s H ex=>(B9 (c2.up (by decide)) hr rfl (@b7 _ _ _ _ _ (pv 1) (@b7 _ _ _ _ _ (pv 0) d8 (by rfl)) (by rfl)))) rfl (by decide +kernel) (by rfl) (by rfl) (fun _=>rfl)) d8 (by rfl))) (@b7 _ _ _ _ _ (G7 L5 rfl B.tuple J6 (@b7 _ _ _ _ _ (N4 (N:=["kind","seconds"]) (ix:=[none,some 6]) (ifs:=[]) (tc:=S1) rfl (P2 rfl B.range (@b7 _ _ _ _ _ (u5 D8 rfl B.len C8 (@b7 _ _ _ _ _ (pv 0) d8 (by rfl))) d8 (by rfl)))
   (fun s H ex=>aj (i:=0) (by decide +kernel) rfl (A2 rfl) (.inr rfl)) (fun s H ex=>M4) (fun s H ex=>(B9 (c2.up (by decide)) hr rfl (@b7 _ _ _ _ _ (pv 1) (@b7 _ _ _ _ _ (pv 0) d8 (by rfl)) (by rfl)))) rfl (by decide +kernel) (by rfl) (by rfl) (fun _=>rfl)) d8 (by rfl))) d8 (by rfl)) (by rfl))))))))),?_⟩
 rcases h with hrf|⟨st,a,b,v,n,k,us,ws,rs,rfl,hA,q⟩
 ·obtain ⟨st,u,v,x,y,d,e,r,g,i,rfl,gj⟩:=hrf
  exact ⟨_,rfl,_,rfl,_,rfl,_,rfl,.inl ⟨st,u,v,x,y,d,e,r,g,i,rfl,gj⟩⟩
 refine ⟨_,rfl,_,rfl,_,rfl,_,rfl,.inr ⟨st,a,b,v,n,k,us,ws,rs,rfl,hA,fun D as T H1 _ g1 hT hO hD hR=>?_⟩⟩
 obtain ⟨a',e,_,ha⟩:=hA.u.di
 cases e
 have hul:=hA.uu.len
 have n4:=hA.n4
 have k4:=hA.k4
 obtain ⟨w1,w2,w3,w4⟩:=vi hA.ru hA.n1 n4 hA.uu hA.wu k4
 have e1:LL ^ k<=2 ^ 1800:=n6 (uH k) (C6 (by decide) (by lia))
 have e2:4 ^ (k*k)<=2 ^ 80:=by
  have:k*k<=4*4:=C7 k4 k4
  exact n6 (C6 (by decide) this) (by decide)
 have hTl:T.length<128:=by rw[hT.length_eq];exact w4
 have hlen:T.length=as.length:=U0 hR
 have hE:bU (LL ^ k) (4 ^ (k*k)) T:=fun p hp=>w3 p (hT.mem_iff.mp hp)
 have u1:∀p∈T,aq n (20+5*k) (p.1.take n):=fun p hp=>(w1 p (hT.mem_iff.mp hp)).one
 have u2:∀p∈T,aq n (20+5*k) (p.1.drop n):=fun p hp=>(w1 p (hT.mem_iff.mp hp)).two
 refine ⟨_,rfl,D,rfl,⟨_,.of (id hD)⟩,?_⟩
 refine sm (K:=K) (a:=D) (xs:=as.map V.ref) (sz (by rw[d6];lia)) (fun i zs H2=>i7 H1 H2/\i<=T.length/\∃bs:List Addr,zs=bs.map V.ref/\R2 (aJ n) H2 (T.take i) bs) ⟨i7.refl _,u9 _,[],rfl,.nil⟩ (fun i zs H2 h=>?_) (fun i zs H2 _ h=>.of (h.1 _ _ (id hD))) ⟨rfl,rfl,rfl⟩ (fun i zs H2 x hx h=>?_) (fun zs H2 h=>?_)
 ·obtain ⟨_,hi,bs,rfl,hb⟩:=h
  have:=U0 hb
  rw[y7] at this
  rw[d6];lia
 ·obtain ⟨g2,hi,bs,rfl,hb⟩:=h
  rw[A4,cF] at hx
  obtain ⟨r,hr',rfl⟩:=hx
  obtain ⟨p,hp,ca,da,qa,h1,h2,h3,h4⟩:=tW hR hr'
  have hil:=(List.getElem?_eq_some_iff.mp hp).1
  refine ⟨r,.ref ca,.ref da,.ref qa,rfl,.of (g2 _ _ (id h1)),_,rfl,_,rfl,(by show 2<=i6;decide),fun z hz=>⟨g2.trans (i7.new hz),hil,bs++[z],by rw[A3];rfl,?_⟩⟩
  rw[D2,hp]
  exact bO ⟨_,_,f7,i7.new hz _ _ (g2 _ _ (id h2)),i7.new hz _ _ (g2 _ _ (id h4))⟩ (R2.mono hb fun a xs e=>i7.new hz _ _ e)
 obtain ⟨gx,_,fas,rfl,hb⟩:=h
 intro fa hp
 rw[d6,<- hlen,D4] at hb
 have gy:i7 H2 (n5 H2 fa (.lst (fas.map V.ref))):=i7.new hp
 have hfa:n5 H2 fa (.lst (fas.map V.ref)) fa=some (.lst (fas.map V.ref)):=f7
 have gf:=gx.trans gy
 have rf:=R2.mono hb fun a xs e=>gy _ _ e
 try dsimp -proj only[V7]
 generalize n5 H2 fa (.lst (fas.map V.ref))=Hf at gy hfa gf rf
 clear gx gy hb hp
 refine ⟨_,rfl,D,rfl,⟨_,.of (gf _ _ hD)⟩,?_⟩
 refine sm (K:=K) (a:=D) (xs:=as.map V.ref) (sz (by rw[d6];lia)) (fun i zs H2=>i7 Hf H2/\i<=T.length/\∃bs:List Addr,zs=bs.map V.ref/\R2 (aK n) H2 (T.take i) bs) ⟨i7.refl _,u9 _,[],rfl,.nil⟩ (fun i zs H2 h=>?_) (fun i zs H2 _ h=>.of (h.1 _ _ (gf _ _ hD))) ⟨rfl,rfl,rfl⟩ (fun i zs H2 x hx h=>?_) (fun zs H2 h=>?_)
 ·obtain ⟨_,hi,bs,rfl,hb⟩:=h
  have:=U0 hb
  rw[y7] at this
  rw[d6];lia
 ·obtain ⟨g2,hi,bs,rfl,hb⟩:=h
  rw[A4,cF] at hx
  obtain ⟨r,hr',rfl⟩:=hx
  obtain ⟨p,hp,ca,da,qa,h1,h2,h3,h4⟩:=tW hR hr'
  have hil:=(List.getElem?_eq_some_iff.mp hp).1
  refine ⟨r,.ref ca,.ref da,.ref qa,rfl,.of (g2 _ _ (gf _ _ h1)),_,rfl,_,rfl,(by show 2<=i6;decide),fun z hz=>⟨g2.trans (i7.new hz),hil,bs++[z],by rw[A3];rfl,?_⟩⟩
  rw[D2,hp]
  exact bO ⟨_,_,f7,i7.new hz _ _ (g2 _ _ (gf _ _ h3)),i7.new hz _ _ (g2 _ _ (gf _ _ h4))⟩ (R2.mono hb fun a xs e=>i7.new hz _ _ e)
 obtain ⟨gx,_,sas,rfl,hb⟩:=h
 intro sa hp
 rw[d6,<- hlen,D4] at hb
 have gy:i7 H2 (n5 H2 sa (.lst (sas.map V.ref))):=i7.new hp
 have hsa:n5 H2 sa (.lst (sas.map V.ref)) sa=some (.lst (sas.map V.ref)):=f7
 have gs:=gx.trans gy
 have rs2:=R2.mono hb fun a xs e=>gy _ _ e
 try dsimp -proj only[V7]
 generalize n5 H2 sa (.lst (sas.map V.ref))=Hg at gy hsa gs rs2
 clear gx gy hb hp
 refine ⟨_,rfl,a,_,rfl,.inr (.of (gs _ _ <| gf _ _ <| g1 _ _ ha)),(n:Int),by rw[d6,hul],by lia,by lia,?_⟩
 refine Y8 (lo:=0) (n:=n) (sz (by lia)) (fun i zs H2=>i7 Hg H2/\i<=n/\mh H2 (yq (aJ n) T i) zs) ⟨i7.refl _,u9 _,trivial⟩ (fun i zs H2 h=>?_) rfl (fun i zs H2 hi h=>?_) (fun zs1 H2 h=>?_)
 ·rw[h.2.2.len,lG]
 ·obtain ⟨g2,hil,hF⟩:=h
  have e0:(0:Int)+(i:Int)=(i:Int):=by lia
  rw[e0]
  refine ⟨_,rfl,_,rfl,fa,i,n,20+5*k,LL ^ k,4 ^ (k*k),T,fas,aJ n,rfl,g2 _ _ (gs _ _ hfa),R2.mono rf (fun a xs e=>g2 _ _ (gs _ _ e)),u1,by lia,n4,hi,hE,hTl,lW k,e1,e2,fun r H3 g3 hr3=>⟨g2.trans g3,by lia,?_⟩⟩
  rw[pY]
  exact mh.snoc ⟨r,rfl,hr3⟩ (hF.mono fun a xs e=>g3 _ _ e)
 obtain ⟨gx,_,hF⟩:=h
 intro p hp
 refine ⟨p,_,rfl,.inl ⟨.of f7,fun l1 hl=>?_⟩⟩
 have gy:i7 H2 (n5 (n5 H2 p (.lst zs1)) l1 (.tup zs1)):=(i7.new hp).trans (i7.new hl)
 have hl1:n5 (n5 H2 p (.lst zs1)) l1 (.tup zs1) l1=some (.tup zs1):=f7
 have gm1:=gx.trans gy
 have hF1:=hF.mono fun a xs e=>gy _ _ e
 generalize n5 (n5 H2 p (.lst zs1)) l1 (.tup zs1)=Hm at gy hl1 gm1 hF1
 clear gx gy hF hp hl
 refine ⟨_,rfl,a,_,rfl,.inr (.of (gm1 _ _ <| gs _ _ <| gf _ _ <| g1 _ _ ha)),(n:Int),by rw[d6,hul],by lia,by lia,?_⟩
 refine Y8 (lo:=0) (n:=n) (sz (by lia)) (fun i zs H2=>i7 Hm H2/\i<=n/\mh H2 (yq (aK n) T i) zs) ⟨i7.refl _,u9 _,trivial⟩ (fun i zs H2 h=>?_) rfl (fun i zs H2 hi h=>?_) (fun zs2 H2 h=>?_)
 ·rw[h.2.2.len,lG]
 ·obtain ⟨g2,hil,hF⟩:=h
  have e0:(0:Int)+(i:Int)=(i:Int):=by lia
  rw[e0]
  refine ⟨_,rfl,_,rfl,sa,i,n,20+5*k,LL ^ k,4 ^ (k*k),T,sas,aK n,rfl,g2 _ _ (gm1 _ _ hsa),R2.mono rs2 (fun a xs e=>g2 _ _ (gm1 _ _ e)),u2,by lia,n4,hi,hE,hTl,lW k,e1,e2,fun r H3 g3 hr3=>⟨g2.trans g3,by lia,?_⟩⟩
  rw[pY]
  exact mh.snoc ⟨r,rfl,hr3⟩ (hF.mono fun a xs e=>g3 _ _ e)
 obtain ⟨gx,_,hF⟩:=h
 intro p hp
 refine ⟨p,_,rfl,.inl ⟨.of f7,fun l2 hl=>?_⟩⟩
 have gy:i7 H2 (n5 (n5 H2 p (.lst zs2)) l2 (.tup zs2)):=(i7.new hp).trans (i7.new hl)
 have hl2:n5 (n5 H2 p (.lst zs2)) l2 (.tup zs2) l2=some (.tup zs2):=f7
 have gm2:=gx.trans gy
 have hF2:=hF.mono fun a xs e=>gy _ _ e
 generalize n5 (n5 H2 p (.lst zs2)) l2 (.tup zs2)=Hs at gy hl2 gm2 hF2
 clear gx gy hF hp hl
 refine ⟨(by show 2<=i6;decide),fun p hp=>?_⟩
 have gp:i7 Hs (n5 Hs p (.tup [.ref l1,.ref l2])):=i7.new hp
 exact q p T _ (((((g1.trans gf).trans gs).trans gm1).trans gm2).trans gp) hT hO ⟨l1,l2,zs1,zs2,f7,gp _ _ (gm2 _ _ hl1),(hF1.mono fun a xs e=>gm2 _ _ e).mono fun a xs e=>gp _ _ e,gp _ _ hl2,hF2.mono fun a xs e=>gp _ _ e⟩
end
theorem Cc {H:Hp}{a b:Addr}{ys zs xs:List V} (h:H a=some (.lst ys)) (e:H b=some (.tup xs)):n5 H a (.lst zs) b=some (.tup xs):=by
 rw[C0 fun z=>by rw[z,h] at e;cases e];exact e
section
variable {P:j6}{w:r9}{K:m9}{mg:Str->Option b9}{base:Heap}{f:Addr}{fd:D6}{ec:Nat->Addr}{Bs:Addr}
noncomputable def xD:Sp:=fun vs H Q _=>∃(a b st:Addr) (v:V) (n k:Nat) (us ws:List Int) (rs:List (List Int)),vs=[.ref a,.ref b,v,.int k]/\H a=some (.tup (us.map V.int))/\H b=some (.tup (ws.map V.int))/\Mt.aq n 20 us/\Mt.aq n 20 ws/\Dt st H (DR rs) v/\Mt.lU n 5 rs/\1<=n/\n<=4/\k<=4 /\
 ∀p T' H',i7 H H'->T'.Perm (tw n rs k us ws)->qu T'->Ss n T' H' p->Q (.ref p) H'
noncomputable abbrev CF:Stmt:=fE 63
theorem hJ:D9 ["_law_one","_law_other","_law_rule_here","_law_draws","_law_found","_law_rows","_law_side","_law_shares","_law_kind","_law_total","_law_row"] ["_law_one","_law_other","_law_rule_here","_law_draws"] (A1 CF):=⟨rfl,rfl,rfl,by decide +kernel,rfl,by decide +kernel,by decide +kernel⟩
theorem Ia (F:bT K "_law_due" "_law_due" CF f fd) (B:Bt mg) (c1:V4 P w K mg base 3 "_law_pairs" ["_law_one","_law_other","_law_rule_here","_law_draws"] Cm) (c2:V4 P w K mg base 2 "_law_plus" ["_law_one","_law_other"] fF) (c3:V4 P w K mg base 2 "_law_by" ["_law_one","_law_other"] dD) (c4:V4 P w K mg base 1 "_law_fraction" ["_law_top","_law_bottom"] mG):N0 P w K mg base dI 4 f fd ["_law_one","_law_other","_law_rule_here","_law_draws"] xD:=by
 refine F.ok hJ (fun vs H Q E h=>?_) (fun cdv A outer s H vs Q E hr h=>?_)
 ·obtain ⟨a,b,st,v,n,k,us,ws,rs,rfl,_⟩:=h
  rfl
 obtain ⟨a,b,st,v,n,k,us,ws,rs,rfl,ha,hb,hU,hW,hv,hR,n1,n4,k4,q⟩:=h
 refine ⟨_,(@m7 _ _ _ _ _ (@F9 _ _ 4 _ _ _ _ hJ.nd rfl (A2 rfl) (@N8 _ _ _ _ d8) (by rfl) (by first|exact .inl rfl|exact .inr rfl))
  (@m7 _ _ _ _ _ (@F9 _ _ 5 _ _ _ _ hJ.nd rfl (A2 rfl) (B9 c1 hr rfl (@b7 _ _ _ _ _ (pv 0) (@b7 _ _ _ _ _ (pv 1) (@b7 _ _ _ _ _ (pv 2) (@b7 _ _ _ _ _ (pv 3) d8 (by rfl)) (by rfl)) (by rfl)) (by rfl))) (by rfl) (by first|exact .inl rfl|exact .inr rfl))
  (@m7 _ _ _ _ _ (cO J7 rfl (P2 rfl B.range (@b7 _ _ _ _ _ j0 d8 (by rfl))) (T7 (i:=6) hJ.nd rfl (A2 rfl))
  (@m7 _ _ _ _ _ (@F9 _ _ 7 _ _ _ _ hJ.nd rfl (A2 rfl) (@N8 _ _ _ _ d8) (by rfl) (by first|exact .inl rfl|exact .inr rfl))
  (@m7 _ _ _ _ _ (cO J7 rfl (P2 rfl B.range (@b7 _ _ _ _ _ (u5 D8 rfl B.len C8 (@b7 _ _ _ _ _ (pv 0) d8 (by rfl))) d8 (by rfl))) (T7 (i:=8) hJ.nd rfl (A2 rfl))
  (@m7 _ _ _ _ _ (@F9 _ _ 9 _ _ _ _ hJ.nd rfl (A2 rfl) (@D3 _ _ _ _ _ (@b7 _ _ _ _ _ j0 (@b7 _ _ _ _ _ j0 d8 (by rfl)) (by rfl))) (by rfl) (by first|exact .inl rfl|exact .inr rfl))
  (@m7 _ _ _ _ _ (cO J7 rfl (dc (pv 5)) (T7 (i:=10) hJ.nd rfl (A2 rfl))
  (@t6 _ _ _ (@F9 _ _ 9 _ _ _ _ hJ.nd rfl (A2 rfl) (B9 (c2.up (by decide)) hr rfl (@b7 _ _ _ _ _ (pv 9) (@b7 _ _ _ _ _ (B9 (c3.up (by decide)) hr rfl (@b7 _ _ _ _ _ (@G4 _ _ _ _ _ _ _ L7 (pv 10) j0 (fun _ _=>rfl)) (@b7 _ _ _ _ _ (B9 (c4.up (by decide)) hr rfl (@b7 _ _ _ _ _ (@G4 _ _ _ _ _ _ _ L7 (@G4 _ _ _ _ _ _ _ L7 (pv 10) (pv 6) (fun _ _=>rfl)) (pv 8) (fun _ _=>rfl)) (@b7 _ _ _ _ _ (u5 (cu rfl) rfl B.sum Ag (@b7 _ _ _ _ _ (@G4 _ _ _ _ _ _ _ L7 (pv 10) (pv 6) (fun _ _=>rfl)) d8 (by rfl))) d8 (by rfl)) (by rfl))) d8 (by rfl)) (by rfl))) d8 (by rfl)) (by rfl))) (by rfl) (by first|exact .inl rfl|exact .inr rfl))))
  (@t6 _ _ _ (fI (CW gO sR sQ rS (pv 7) (@b7 _ _ _ _ _ (pv 9) d8 (by rfl))))))))
  (@t6 _ _ _ (fI (CW gO sR sQ rS (pv 4) (@b7 _ _ _ _ _ (G7 L5 rfl B.tuple J6 (@b7 _ _ _ _ _ (pv 7) d8 (by rfl))) d8 (by rfl))))))))
  (@t6 _ _ _ (D7 (G7 L5 rfl B.tuple J6 (@b7 _ _ _ _ _ (pv 4) d8 (by rfl)))))))),?_⟩
 refine ⟨(by show 0<=i6;decide),fun fl hfl=>?_⟩
 have g0:i7 H (n5 H fl (.lst [])):=i7.new hfl
 have hfl0:n5 H fl (.lst []) fl=some (.lst []):=f7
 try dsimp -proj only[V7]
 generalize n5 H fl (.lst [])=H0 at g0 hfl0
 refine ⟨_,rfl,_,rfl,_,rfl,_,rfl,a,b,st,v,n,k,us,ws,rs,rfl,g0 _ _ ha,g0 _ _ hb,hU,hW,hv.kp (g0.kp st),hR,n1,n4,k4,fun D as T H1 hDn g1 hT hO hD hR3=>?_⟩
 have nDf:D≠fl:=fun e=>by rw[e,hfl0] at hDn;cases hDn
 have naf:a≠fl:=v5 ha hfl
 have hf1:=g1 _ _ hfl0
 obtain ⟨w1,w2,w3,w4⟩:=vi hR n1 n4 hU hW k4
 have hTl:T.length<128:=by rw[hT.length_eq];exact w4
 have hlen:T.length=as.length:=U0 hR3
 have e1:LL ^ k<=2 ^ 1800:=n6 (uH k) (C6 (by decide) (by lia))
 have e2:4 ^ (k*k)<=2 ^ 80:=by
  have:k*k<=4*4:=C7 k4 k4
  exact n6 (C6 (by decide) this) (by decide)
 have hN0:=lW k
 have hE:bU (LL ^ k) (4 ^ (k*k)) T:=fun p hp=>w3 p (hT.mem_iff.mp hp)
 have u1:∀p∈T,aq n (20+5*k) (p.1.take n):=fun p hp=>(w1 p (hT.mem_iff.mp hp)).one
 have u2:∀p∈T,aq n (20+5*k) (p.1.drop n):=fun p hp=>(w1 p (hT.mem_iff.mp hp)).two
 generalize LL ^ k=N at e1 hN0 hE
 generalize 4 ^ (k*k)=En at e2 hE
 have hNL:LL*N<=2 ^ 2100:=by
  have:(2:Nat) ^ 2100=2 ^ 300*2 ^ 1800:=by rw[<- K7]
  rw[this];exact C7 wM e1
 have hNE:LL*N*(En*T.length+En)<=2 ^ 2190:=by
  have:(2:Nat) ^ 2190=2 ^ 2100*(2 ^ 80*2 ^ 10):=by rw[<- K7,<- K7]
  rw[this]
  refine C7 hNL ?_
  have:En*T.length+En=En*(T.length+1):=by rw[V5,rB]
  rw[this]
  exact C7 e2 (by show _<=1024;lia)
 have hNl:LL*N<=2 ^ 2190:=n6 hNL (C6 (by decide) (by decide))
 have hN1:0<LL*N:=cG qv hN0
 clear w1 w2 w3 w4
 refine ⟨2,rfl,by decide,by decide,?_⟩
 refine eQ (lo:=0) (n:=2) (fun j σ Hj=>Kp fl H1 Hj/\(∃bs:List Addr,Hj fl=some (.lst (bs.map V.ref))/\ee (fun (g:List Int->List Int) b=>∃xs,Hj b=some (.tup xs)/\mh Hj (yq g T n) xs) (([aJ n,aK n]:List (List Int->List Int)).take j) bs)/\∃o6 o7 o8 o9 o10,σ=[some (.ref a),some (.ref b),some v,some (.int k),some (.ref fl),some (.ref D),o6,o7,o8,o9,o10])
  ⟨Kp.refl _ _,⟨[],hf1,.nil⟩,none,none,none,none,none,rfl⟩ (fun j σ Hj hj h=>?_) (fun σ He h=>?_)
 ·obtain ⟨kj,⟨bs,hbs,hP⟩,o6,o7,o8,o9,o10,rfl⟩:=h
  have e0:(0:Int)+(j:Int)=(j:Int):=by lia
  rw[e0]
  obtain ⟨g,hg,gu,gr⟩:∃g:List Int->List Int,([aJ n,aK n]:List (List Int->List Int))[j]?=some g/\(∀p∈T,aq n (20+5*k) (g p.1))/\∀(H':Hp) (p:List Int × Rat) (c d q:Addr),H' c=some (.tup ((p.1.take n).map V.int))->H' d=some (.tup ((p.1.drop n).map V.int))->∃e,([.ref c,.ref d,.ref q]:List V)[j]?=some (.ref e)/\H' e=some (.tup ((g p.1).map V.int)):=by
   match j,hj with
   | 0,_=>exact ⟨_,rfl,u1,fun _ _ c d q h1 h2=>⟨c,rfl,h1⟩⟩
   | 1,_=>exact ⟨_,rfl,u2,fun _ _ c d q h1 h2=>⟨d,rfl,h2⟩⟩
  refine Jh fun D_ n_ _=>?_
  refine ⟨(by show 0<=i6;decide),fun sl hsl=>?_⟩
  have g2:i7 Hj (n5 Hj sl (.lst [])):=i7.new hsl
  have hsl2:n5 Hj sl (.lst []) sl=some (.lst []):=f7
  try dsimp -proj only[V7]
  generalize n5 Hj sl (.lst [])=H2 at g2 hsl2
  have nsf:fl≠sl:=v5 hbs hsl
  have hDj:=kj _ _ nDf hD
  have nDs:D≠sl:=v5 hDj hsl
  have hD2:=g2 _ _ hDj
  refine ⟨_,rfl,a,_,rfl,.inr (.of (g2 _ _ (kj _ _ naf (g1 _ _ (g0 _ _ ha))))),(n:Int),by rw[d6,hU.len],by lia,by lia,?_⟩
  refine eQ (lo:=0) (n:=n) (fun i σ Hi=>Kp sl H2 Hi/\(∃ys,Hi sl=some (.lst ys)/\mh Hi (yq g T i) ys)/\∃o8 o9 o10,σ=[some (.ref a),some (.ref b),some v,some (.int k),some (.ref fl),some (.ref D),some (.int j),some (.ref sl),o8,o9,o10])
   ⟨Kp.refl _ _,⟨[],hsl2,trivial⟩,o8,o9,o10,rfl⟩ (fun i σ Hi hi h=>?_) (fun σ Hn h=>?_)
  ·obtain ⟨ki,⟨ys,hys,hF⟩,o8,o9,o10,rfl⟩:=h
   have e0:(0:Int)+(i:Int)=(i:Int):=by lia
   rw[e0]
   refine Jh fun D_ n_ _=>?_
   refine ⟨(by show 2<=i6;decide),fun t0 ht0=>?_⟩
   have g3:i7 Hi (n5 Hi t0 (.tup [.int 0,.int 1])):=i7.new ht0
   have ht3:n5 Hi t0 (.tup [.int 0,.int 1]) t0=some (.tup ((fr (dC (([]:F7).map fun p=>Mt.cj (g p.1) i*p.2))).map V.int)):=f7
   try dsimp -proj only[V7]
   generalize n5 Hi t0 (.tup [.int 0,.int 1])=H3 at g3 ht3
   have hDi:Hi D=some (.lst (as.map V.ref)):=ki _ _ nDs hD2
   have vx:∀x∈T.map (fun p=>Mt.cj (g p.1) i*p.2),Vq (LL*N) En x:=fun x hx=>by
    obtain ⟨p,hp,e⟩:=List.mem_map.mp hx
    subst e
    exact ((vw (gu p hp) n4 (by lia) i).mul (hE p hp)).mono (by lia)
   refine ⟨_,rfl,D,rfl,⟨_,.of (g3 _ _ hDi)⟩,?_⟩
   refine lO (K:=K) (a:=D) (xs:=as.map V.ref) (fun r σ H4=>i7 Hi H4/\r<=T.length/\∃t o,σ=[some (.ref a),some (.ref b),some v,some (.int k),some (.ref fl),some (.ref D),some (.int j),some (.ref sl),some (.int i),some (.ref t),o]/\H4 t=some (.tup ((fr (dC ((T.take r).map fun p=>Mt.cj (g p.1) i*p.2))).map V.int)))
    ⟨g3,u9 _,t0,o10,rfl,ht3⟩ (fun r σ H4 _ h=>.of (h.1 _ _ hDi)) (fun r x σ H4 hx h=>?_) (fun σ H4 h=>?_)
   ·obtain ⟨g4,hr0,t,o,rfl,ht⟩:=h
    refine Jh fun D_ n_ _=>?_
    rw[A4,cF] at hx
    obtain ⟨ra,hra,rfl⟩:=hx
    obtain ⟨p,hp,ca,da,qa,h1,h2,h3,h4⟩:=tW hR3 hra
    have up:∀(a:Addr) (ys:List V),H1 a=some (.tup ys)->H4 a=some (.tup ys):=fun a ys e=>by
     have hj':=kj _ _ (fun z=>by rw[z,hf1] at e;cases e) e
     exact g4 _ _ (ki _ _ (v5 hj' hsl) (g2 _ _ hj'))
    obtain ⟨ea,he,hea⟩:=gr H4 p ca da qa (up _ _ h2) (up _ _ h3)
    have hpm:=C5 hp
    have hil:=(List.getElem?_eq_some_iff.mp hp).1
    have hu:=gu p hpm
    have s2:=aq.sum_le hu n4
    have s3:=hu.pos
    have hv:=hE p hpm
    have d0:Bd 1880 p.2:=hv.bd hN0 (by
     have:(2:Nat) ^ 1880=2 ^ 1800*2 ^ 80:=by rw[<- K7]
     rw[this];exact C7 e1 e2) (n6 e1 (C6 (by decide) (by decide)))
    refine ⟨_,rfl,_,rfl,ra,_,_,_,rfl,rfl,.of (up _ _ h1),rfl,_,rfl,_,rfl,ra,_,_,_,rfl,rfl,.of (up _ _ h1),E3 he,_,rfl,ea,_,_,_,rfl,rfl,.of hea,lS (by rw[hu.len];exact hi),_,rfl,_,rfl,ra,_,_,_,rfl,rfl,.of (up _ _ h1),E3 he,ea,g p.1,rfl,.inr (.of hea),_,_,rfl,(hu.getD i).1,s3,yt (n:=12) s3 (by show _<=4096;lia) (by lia),fun p5 H5 g5 hp5=>?_⟩
    refine ⟨qa,p5,p.2,Mt.cj (g p.1) i,1880,12,rfl,g5 _ _ (up _ _ h4),hp5,Rat.num_nonneg.mpr hv.nn,Rat.num_nonneg.mpr (vz hu i),d0,vA hu n4 (by lia) i,by decide,fun p6 H6 g6 hp6=>?_⟩
    rw[Rat.mul_comm] at hp6
    have v1:Vq (LL*N) En (Mt.cj (g p.1) i*p.2):=vx _ (List.mem_map.mpr ⟨p,hpm,rfl⟩)
    have v2:Vq (LL*N) (En*T.length) (dC ((T.take r).map fun p=>Mt.cj (g p.1) i*p.2)):=(tu fun y hy=>by
     obtain ⟨z,hz,e⟩:=List.mem_map.mp hy
     exact vx y (List.mem_map.mpr ⟨z,C9 hz,e⟩)).mono (L6 _ (by rw[d6,y7];lia))
    have b1:=v1.bd hN1 (n6 (L6 _ (fu _ _)) hNE) hNl
    have b2:=v2.bd hN1 (n6 (L6 _ (ag _ _)) hNE) hNl
    refine ⟨t,p6,_,_,2190,2190,rfl,g6 _ _ (g5 _ _ ht),hp6,Rat.num_nonneg.mpr v2.nn,Rat.num_nonneg.mpr v1.nn,b2,b1,by decide,fun r7 H7 g7 hr7=>n_ _ _ ⟨((g4.trans g5).trans g6).trans g7,hil,r7,_,rfl,?_⟩⟩
    rw[D2,hp,A3]
    show _=some (HO.tup ((fr (dC (_++[Mt.cj (g p.1) i*p.2]))).map V.int))
    rw[rG];exact hr7
   ·obtain ⟨g4,_,t,o,rfl,ht⟩:=h
    rw[d6,<- hlen,D4] at ht
    have hy4:=g4 _ _ hys
    refine ⟨_,rfl,.inl ⟨rfl,_,.of hy4⟩,_,rfl,sl,ys,_,rfl,rfl,hy4,?_,?_⟩
    ·rw[hF.len,lG];exact B5 (show i<4 by lia) (by decide)
    ·refine n_ _ _ ⟨ki.trans ((g4.kp sl).trans Kp.at),⟨ys++[.ref t],f7,?_⟩,_,_,_,rfl⟩
     rw[pY]
     exact mh.snoc ⟨t,rfl,Cc hy4 ht⟩ (hF.mono fun a xs e=>Cc hy4 (g4 _ _ e))
  ·obtain ⟨kn,⟨ys,hys,hF⟩,o8,o9,o10,rfl⟩:=h
   have hfn:=kn _ _ nsf (g2 _ _ hbs)
   refine ⟨_,rfl,.inl ⟨rfl,_,.of hfn⟩,_,rfl,sl,_,rfl,.inl ⟨.of hys,fun l hl=>?_⟩⟩
   have gl:i7 Hn (n5 Hn l (.tup ys)):=i7.new hl
   have hll:n5 Hn l (.tup ys) l=some (.tup ys):=f7
   try dsimp -proj only
   generalize n5 Hn l (.tup ys)=Hl at gl hll
   have hfL:=gl _ _ hfn
   have hjb:=U0 hP
   rw[y7] at hjb
   refine ⟨fl,_,_,rfl,rfl,hfL,?_,?_⟩
   ·rw[d6,<- hjb];exact F2 (Gw _ _) (show 2<i6 by decide)
   ·have tk:∀(a:Addr) (xs:List V),Hj a=some (.tup xs)->n5 Hl fl (.lst (bs.map V.ref++[V.ref l])) a=some (.tup xs):=fun a xs e=>Cc hfL (gl _ _ (kn _ _ (v5 e hsl) (g2 _ _ e)))
    refine n_ _ _ ⟨fun b u hb' e=>?_,⟨bs++[l],by rw[A3];exact f7,?_⟩,_,_,_,_,_,rfl⟩
    ·rw[C0 hb']
     have e':=kj _ _ hb' e
     exact gl _ _ (kn _ _ (v5 e' hsl) (g2 _ _ e'))
    ·rw[D2,hg]
     exact bO ⟨ys,Cc hfL hll,hF.mono fun a xs e=>Cc hfL (gl _ _ e)⟩ (Paired.mapP hP fun g b ⟨xs,x1,x2⟩=>⟨xs,tk _ _ x1,x2.mono tk⟩)
 ·obtain ⟨ke,⟨bs,hbs,hP⟩,o6,o7,o8,o9,o10,rfl⟩:=h
  refine ⟨_,rfl,fl,_,rfl,.inl ⟨.of hbs,fun p hp=>?_⟩⟩
  have gp:i7 He (n5 He p (.tup (bs.map V.ref))):=i7.new hp
  have up:∀(a:Addr) (xs:List V),He a=some (.tup xs)->n5 He p (.tup (bs.map V.ref)) a=some (.tup xs):=fun a xs e=>gp _ _ e
  match bs,hP with
  | _,.cons ⟨xs,x1,x2⟩ (.cons ⟨ys,y1,y2⟩ .nil) =>
   exact q p T _ (fun b u e=>gp _ _ (ke _ _ (v5 e hfl) (g1 _ _ (g0 _ _ e)))) hT hO ⟨_,_,xs,ys,f7,up _ _ x1,x2.mono up,up _ _ y1,y2.mono up⟩
end
end G
set_option maxHeartbeats 8000000
namespace G
open PySem PySem.Spec PyProof.Rows L2 Mt Md Mq M8 HP
mutual
theorem Ll {l T:Addr}{H:Hp}{ps:Array b9} (hT:H T=some (.tbl ps)):∀{d:B0}{v:V},Dt l H d v->Dt T H d v
 | .none,_,h=>by unfold Dt at h ⊢;exact h
 | .bool _,_,h=>by unfold Dt at h ⊢;exact h
 | .int _,_,h=>by unfold Dt at h ⊢;exact h
 | .str _,_,h=>by unfold Dt at h ⊢;exact h
 | .tuple ds,_,h=>by
  unfold Dt at h ⊢
  obtain ⟨a,xs,e,n,q,r⟩:=h
  exact ⟨a,xs,e,(fun z=>by rw[z,hT] at q;cases q),q,yP hT r⟩
 | .list ds,_,h=>by
  unfold Dt at h ⊢
  obtain ⟨a,xs,e,n,q,r⟩:=h
  exact ⟨a,xs,e,(fun z=>by rw[z,hT] at q;cases q),q,yP hT r⟩
 | .dict kvs,_,h=>by
  unfold Dt at h ⊢
  obtain ⟨z,a,e,n,q⟩:=h
  exact ⟨z,a,e,(fun z=>by rw[z,hT] at q;cases q),q⟩
theorem yP {l T:Addr}{H:Hp}{ps:Array b9} (hT:H T=some (.tbl ps)):∀{ds:List B0}{xs:List V},S3 l H ds xs->S3 T H ds xs
 | [],_,h=>by unfold S3 at h ⊢;exact h
 | d::ds,_,h=>by
  unfold S3 at h ⊢
  obtain ⟨x,r,e,q1,q2⟩:=h
  exact ⟨x,r,e,Ll hT q1,yP hT q2⟩
end
variable {H:Hp}
theorem IC {K:m9}{T a:Addr}{H':Hp}{xs:List V}{ps:Array b9} (hT:H T=some (.tbl ps)) (k:Kp T H H') (h:eV K H a xs):eV K H' a xs:=by
 rcases h with (h|⟨o,h⟩)|h
 ·exact .inl (.inl (k _ _ (fun z=>by rw[z,hT] at h;cases h) h))
 ·exact .inl (.inr ⟨o,k _ _ (fun z=>by rw[z,hT] at h;cases h) h⟩)
 ·exact .inr h
noncomputable abbrev lq:Str:=(("law":Str)++".<locals>.")++"<lambda>"
mutual
theorem jD {l T:Addr}{H H':Hp}{ps:Array b9} (hT:H T=some (.tbl ps)) (k:Kp T H H'):∀{d:B0}{v:V},Dt l H d v->Dt l H' d v
 | .none,_,h=>by unfold Dt at h ⊢;exact h
 | .bool _,_,h=>by unfold Dt at h ⊢;exact h
 | .int _,_,h=>by unfold Dt at h ⊢;exact h
 | .str _,_,h=>by unfold Dt at h ⊢;exact h
 | .tuple ds,_,h=>by
  unfold Dt at h ⊢
  obtain ⟨a,xs,e,n,q,r⟩:=h
  exact ⟨a,xs,e,n,k _ _ (fun z=>by rw[z,hT] at q;cases q) q,qz hT k r⟩
 | .list ds,_,h=>by
  unfold Dt at h ⊢
  obtain ⟨a,xs,e,n,q,r⟩:=h
  exact ⟨a,xs,e,n,k _ _ (fun z=>by rw[z,hT] at q;cases q) q,qz hT k r⟩
 | .dict kvs,_,h=>by
  unfold Dt at h ⊢
  obtain ⟨z,a,e,n,q⟩:=h
  exact ⟨z,a,e,n,k _ _ (fun z=>by rw[z,hT] at q;cases q) q⟩
theorem qz {l T:Addr}{H H':Hp}{ps:Array b9} (hT:H T=some (.tbl ps)) (k:Kp T H H'):∀{ds:List B0}{xs:List V},S3 l H ds xs->S3 l H' ds xs
 | [],_,h=>by unfold S3 at h ⊢;exact h
 | d::ds,_,h=>by
  unfold S3 at h ⊢
  obtain ⟨x,r,e,q1,q2⟩:=h
  exact ⟨x,r,e,jD hT k q1,qz hT k q2⟩
end
noncomputable def Lh (X:Cx) (params:dN) (body:Expr) (scope:Q0) (H:Hp) (f:Addr):Prop:=∃c ctv,H f=some (KN (Dz X params body scope c ctv))/\Ad (wd X) H c
section
variable {X:Cx}{params:dN}{body:Expr}{scope:Q0}{H H':Hp}{f0 T p:Addr}
theorem Fo {σ:L2.St}{Hf:Hp}{N:List Str}{ix:List (Option Nat)}{k:Nat}{c:Nat->Addr}{Q:VK}{o:Option Nat}
  (Zc:xj X) (fz:qw X σ H Hf) (hL:Lh X params body scope H f0) (hfr:bK scope X.env=true) (k1:scope.kind=.function) (k2:scope.isCoroutine=false) (k3:scope.isGenerator=false) (k4:∀x∈scope.names,x.2≠.cell) (hx:jl scope X.N N ix=true) (hi:∀i,o=some i->i<10)
  (hba:∀c0 ctv,Ai (W.kla_fn "<lambda>" (wd X) params body scope (W6 X.env scope.names []) ((X.mg "__name__").getD .none) (.ref c0) ctv) ⟨[],[]⟩=pure [])
  (hrun:∀(c0:Addr) (A':A5) (outer':List Env) (s':d7) (E1:XK) (Q1:VK),cE k (A'.deeper (oM (wd X) scope s'.heap.objs.size f0 (.ref c0) (W6 X.env scope.names [])))->i7 H (cQ (W6 X.env scope.names []) Hf)->Out c (cQ (W6 X.env scope.names []) Hf) Q1 E1 o ->
   ∃t,PE (si X.prog X.w X.K X.mg X.base N (wd X) scope f0 (.ref c0) (W6 X.env scope.names []) A' outer' s' (cQ (W6 X.env scope.names []) Hf) E1) body t/\t (iQ ix σ) (cQ (W6 X.env scope.names []) Hf) Q1)
  (q:∀H',i7 Hf H'->Q (CZ o) H'):gU X.prog X.w X.K X.mg X.base (k+1) c [.ref f0] Hf Q E0:=by
 obtain ⟨c0,ctv,hf0,oc,ovs,ot,hoc,hod1,hod2⟩:=hL
 refine ⟨f0,JR X.prog X.w X.K X.mg X.base k f0 c0 _ _ _ _ _ _ _ _ N,_,_,o,rfl,fz.same _ _ hf0,rfl,hba c0 ctv,fnL (Zc.lsc hfr k1 k2 k3 k4) (fun _ _ _ _ h=>h),hi,fun Q' E' ho=>?_,q⟩
 refine ⟨rfl,fz.same _ _ hf0,⟨oc,ovs,ot,fz.same _ _ hoc,hod1,hod2⟩,Zc.celk hfr fz,_,Zc.st hfr fz hx,fun A' outer' s' hr'=>?_⟩
 refine hrun c0 A' outer' s' _ _ hr' (fz.inner Zc hfr) ?_
 cases o with
 | none=>exact fun v H'' g=>ho v _ (zA g)
 | some i=>exact fun H'' g=>ho _ (zA g)
end
theorem Cv:∀o:Option Nat,(∀i,o=some i->i<10)->GU (CZ o) (CZ o)=true
 | none,_=>rfl
 | some 0,_=>rfl
 | some 1,_=>rfl
 | some 2,_=>rfl
 | some 3,_=>rfl
 | some 4,_=>rfl
 | some 5,_=>rfl
 | some 6,_=>rfl
 | some 7,_=>rfl
 | some 8,_=>rfl
 | some 9,_=>rfl
 | some (n+10),h=>absurd (h _ rfl) (by lia)
theorem Ax {t u:TS}{D:ju}{σ:L2.St}(R:L2.St->Hp->Prop) (h1:∀N:L2.St->Hp->Prop,(∀σ' Hx,R σ' Hx->N σ' Hx)->t { D with nx:=N } σ H) (h2:∀σ' Hx,R σ' Hx->u D σ' Hx):iO t u D σ H:=h1 (u D) h2
noncomputable def fD (xs:List Rat):B0:=.tuple (xs.map fun x=>DI (fr x))
noncomputable def Je (n:Nat) (T:F7):B0:=.tuple [fD (yq (aJ n) T n),fD (yq (aK n) T n)]
theorem yD {H:Hp}:∀{xs:List Rat}{vs:List V},mh H xs vs->∃N,∀st,N<st->S3 st H (xs.map fun x=>DI (fr x)) vs
 | [],[],_=>⟨0,fun _ _=>rfl⟩
 | x::xs,v::vs,⟨⟨q,e,h⟩,t⟩=>by
  obtain ⟨N,hN⟩:=yD t
  subst e
  exact ⟨N+q,fun st hst=>S3.cons (Dt.mkI (v8 (F2 (fu q N) hst)) h) (hN st (F2 (ag N q) hst))⟩
variable {n:Nat}{T:F7}
theorem Gb {p:Addr} (h:Ss n T H p):∃N,∀st,N<st->Dt st H (Je n T) (.ref p):=by
 obtain ⟨x,y,xs,ys,h1,h2,h3,h4,h5⟩:=h
 obtain ⟨N1,d1⟩:=yD h3
 obtain ⟨N2,d2⟩:=yD h5
 have l1:∀{A B st:Nat},A+B<st->A<st:=fun {A B st} h=>F2 (ag A B) h
 have l2:∀{A B st:Nat},A+B<st->B<st:=fun {A B st} h=>F2 (fu B A) h
 refine ⟨N1+N2+p+x+y,fun st hst=>?_⟩
 have i1:=l1 hst
 have i2:=l1 i1
 have i3:=l1 i2
 exact Dt.tup (v8 (l2 i2)) h1 (S3.cons (Dt.tup (v8 (l2 i1)) h2 (d1 st (l1 i3))) (S3.cons (Dt.tup (v8 (l2 hst)) h4 (d2 st (l2 i3))) (S3.nil _ _)))
theorem yZ {p r:Addr} (h:Ss n T H p) (k:Ss n T H r):∃st,Dt st H (Je n T) (.ref p)/\Dt st H (Je n T) (.ref r):=by
 obtain ⟨N1,d1⟩:=Gb h
 obtain ⟨N2,d2⟩:=Gb k
 exact ⟨N1+N2+1,d1 _ (FO (ag N1 N2)),d2 _ (FO (fu N2 N1))⟩
theorem Ss.mono {n:Nat}{T:F7}{H H':Hp}{p:Addr} (h:Ss n T H p) (g:i7 H H'):Ss n T H' p :=
 let ⟨x,y,xs,ys,h1,h2,h3,h4,h5⟩:=h
 ⟨x,y,xs,ys,g _ _ h1,g _ _ h2,h3.mono fun _ _ e=>g _ _ e,g _ _ h4,h5.mono fun _ _ e=>g _ _ e⟩
theorem KH (ns:List Int) (h:ns.length<=1000):KI 1 (DI ns):=⟨_,.inl rfl,by rw[d6];exact h,fun x hx=>by
 obtain ⟨i,_,rfl⟩:=List.mem_map.mp hx
 exact ⟨i,rfl⟩⟩
theorem Gf {xs:List Rat} (h:xs.length<=1000):KI 2 (fD xs):=⟨_,.inl rfl,by rw[d6];exact h,fun y hy=>by
 obtain ⟨x,_,rfl⟩:=List.mem_map.mp hy
 exact KH _ (by show 2<=1000;decide)⟩
theorem Ic (h:n<=4):KI 3 (Je n T):=⟨_,.inl rfl,by show 2<=1000;decide,fun y hy=>by
 simp only[B6,C3,or_false] at hy
 rcases hy with rfl|rfl
 ·exact Gf (by rw[lG];lia)
 ·exact Gf (by rw[lG];lia)⟩
theorem GF {c:Nat->Addr}{st:Addr}{u v x y:V}{d e r g:B0}{o:Option Nat}{Q:VK}{E:XK} (hu:Dt st H d u) (hus:bN d) (hv:Dt st H e v) (hvs:bN e) (hx:Dt st H r x) (hxo:Bx r) (hy:Dt st H g y) (hw:Gi d e r g o) (ho:Out c H Q E o):vn c [u,v,x,y] H Q E:=by
 cases o with
 | some i=>exact .inl ⟨st,u,v,x,y,d,e,r,g,i,rfl,hu,hus,hv,hvs,hx,hxo,hy,hw,ho⟩
 | none =>
  obtain ⟨h1,h2,h3,h4,h5⟩:=hw
  obtain ⟨ns,e2,l1,l4,hb,hp⟩:=eK h1
  obtain ⟨ms,e3,m1,m4,hb',hp'⟩:=eK h2
  subst e2 e3
  obtain ⟨a,ea,_,ha⟩:=hu.di
  subst ea
  obtain ⟨b,eb,_,hb2⟩:=hv.di
  subst eb
  rw[U5,U5] at h3
  obtain ⟨rs',n,e4,e5,hR⟩:=xQ h4
  subst e4
  rw[U5] at e5
  have e6:n=ns.length:=by lia
  subst e6
  obtain ⟨k,ek,k0,k4⟩:∃k:Nat,g=.int k/\(0:Int)<=k/\k<=4:=by
   cases g with
   | int i =>
    have:(decide ((0:Int)<=i)&&decide (i<=4))=true:=h5
    rw[A6] at this
    have z1:=of_decide_eq_true this.1
    have z2:=of_decide_eq_true this.2
    exact ⟨i.toNat,by congr 1;lia,by lia,by lia⟩
   | _=>cases h5
  subst ek
  have ey:=hy
  unfold Dt at ey
  subst ey
  have hU:Mt.aq ns.length 20 ns:=⟨rfl,fun y hy=>by have:=hb y hy;exact ⟨this.1,this.2⟩,hp⟩
  have hV:Mt.aq ns.length 20 ms:=⟨h3.symm,fun y hy=>by have:=hb' y hy;exact ⟨this.1,this.2⟩,hp'⟩
  exact .inr ⟨st,a,b,x,ns.length,k,ns,ms,rs',rfl,⟨hu,hU,hv,hV,hx,hR,l1,l4,k4⟩,fun p T' H' g' _ _ _=>ho _ H' g'⟩
section
variable {P:j6}{w:r9}{K:m9}{mg:Str->Option b9}{base:Heap}{f:Addr}{fd:D6}
structure Cals (P:j6) (w:r9) (K:m9) (mg:Str->Option b9) (base:Heap) (c:Nat->Addr):Prop where
 state:V4 P w K mg base 10 "_law_state" ["_law_script","_law_k"] (oZ K)
 take:V4 P w K mg base 10 "_law_take" ["_law_state_here","_law_many"] ba
 urn:V4 P w K mg base 10 "_law_urn_of" ["_law_state_here","_law_kinds"] tE
 rule:V4 P w K mg base 10 "_law_rule" ["_law_state_here","_law_kinds"] pe
 due:V4 P w K mg base 10 "_law_due" ["_law_one","_law_other","_law_rule_here","_law_draws"] xD
 same:V4 P w K mg base 10 "_law_same" ["_law_found","_law_due_here"] (lj 3)
 fours:V4 P w K mg base 10 "_law_fours" ["_law_state_here","_law_one","_law_other","_law_rule_here","_law_draws"] Cr
 word:V4 P w K mg base 10 "_law_word" ["_law_one","_law_other","_law_rule_here","_law_draws","_law_most"] Ci
 ts:fU P w K mg base 10 "two_shares" ["one","other","rule","draws"] (vn c)
 ts8:fU P w K mg base 8 "two_shares" ["one","other","rule","draws"] (vn c)
 refused:V4 P w K mg base 10 "_law_refused" ["_law_call"] (gU P w K mg base 9 c)
noncomputable def zd (K:m9) (T:Addr):Sp:=fun vs H Q _=>∃(a:Addr) (ns:List Int),vs=[.ref a]/\eV K H a (ns.map V.int)/\ns.length<=63/\nu lq T H/\∀H',Q (.bl true) H'
noncomputable abbrev pH:Stmt:=fE 64
theorem ja:D9 ["_law_script","_law_k","_law_state_here","_law_kinds","_law_one","_law_other","_law_rule_here","_law_draws","_law_row","_law_word_here"] ["_law_script"] (A1 pH):=⟨rfl,rfl,rfl,by decide +kernel,rfl,by decide +kernel,by decide +kernel⟩
theorem HY {c:Nat->Addr}{T:Addr} (F:bT K "law" "law" pH f fd) (B:Bt mg) (C:Cals P w K mg base c) (hcode:∃cc,fd.code=.ref cc/\jY K cc T=true) (hKb:K.In base) (hbm:base.BuiltinsAt mg T):N0 P w K mg base dI 11 f fd ["_law_script"] (zd K T):=by
 obtain ⟨cc,hcc,hcd⟩:=hcode
 refine F.okC ja (fun vs H Q E h=>?_) (fun cdv A outer s H vs Q E hcv hr h=>?_)
 ·refine fS fun R k_=>?_
  obtain ⟨a,ns,rfl,_⟩:=h
  refine k_ ?_
  rfl
 refine fS fun R k_=>?_
 obtain ⟨a,scr,rfl,hS,h63,hCT,q⟩:=h
 refine k_ ?_
 have Z:∀(X:Cx),X.env.code=cdv->X.base=base->X.mg=mg->Lg X T:=fun X e1 e2 e3=>⟨⟨cc,by rw[e1,<- hcv,hcc],by rw[e2];exact W.codeHd_of_K hKb hcd⟩,by rw[e2,e3];exact hbm⟩
 refine ⟨_,(@m7 _ _ _ _ _ (V6 (@R7 _ _ _ _ _ _ _ _ (HS hr.units) (cm C.ts hr rfl CY (@b7 _ _ _ _ _ (@D3 _ _ _ _ _ (@b7 _ _ _ _ _ j0 (@b7 _ _ _ _ _ j0 d8 (by rfl)) (by rfl))) (@b7 _ _ _ _ _ (@D3 _ _ _ _ _ (@b7 _ _ _ _ _ j0 (@b7 _ _ _ _ _ j0 d8 (by rfl)) (by rfl))) (@b7 _ _ _ _ _ (@D3 _ _ _ _ _ (@b7 _ _ _ _ _ (@D3 _ _ _ _ _ (@b7 _ _ _ _ _ j0 (@b7 _ _ _ _ _ j0 d8 (by rfl)) (by rfl))) (@b7 _ _ _ _ _ (@D3 _ _ _ _ _ (@b7 _ _ _ _ _ j0 (@b7 _ _ _ _ _ j0 d8 (by rfl)) (by rfl))) d8 (by rfl)) (by rfl))) (@b7 _ _ _ _ _ j0 d8 (by rfl)) (by rfl)) (by rfl)) (by rfl))) (@D3 _ _ _ _ _ (@b7 _ _ _ _ _ (@D3 _ _ _ _ _ (@b7 _ _ _ _ _ (@D3 _ _ _ _ _ (@b7 _ _ _ _ _ j0 (@b7 _ _ _ _ _ j0 d8 (by rfl)) (by rfl))) (@b7 _ _ _ _ _ (@D3 _ _ _ _ _ (@b7 _ _ _ _ _ j0 (@b7 _ _ _ _ _ j0 d8 (by rfl)) (by rfl))) d8 (by rfl)) (by rfl))) (@b7 _ _ _ _ _ (@D3 _ _ _ _ _ (@b7 _ _ _ _ _ (@D3 _ _ _ _ _ (@b7 _ _ _ _ _ j0 (@b7 _ _ _ _ _ j0 d8 (by rfl)) (by rfl))) (@b7 _ _ _ _ _ (@D3 _ _ _ _ _ (@b7 _ _ _ _ _ j0 (@b7 _ _ _ _ _ j0 d8 (by rfl)) (by rfl))) d8 (by rfl)) (by rfl))) d8 (by rfl)) (by rfl))) (O8 _)) (@t6 _ _ _ (D7 dF)) K9)
  (@m7 _ _ _ _ _ (cO J7 rfl (P2 rfl B.range (@b7 _ _ _ _ _ (u5 (Bh rfl) rfl B.max boot_max (@b7 _ _ _ _ _ j0 (@b7 _ _ _ _ _ (u5 (Bg rfl) rfl B.min boot_min (@b7 _ _ _ _ _ (u5 D8 rfl B.len C8 (@b7 _ _ _ _ _ (pv 0) d8 (by rfl))) (@b7 _ _ _ _ _ j0 d8 (by rfl)) (by rfl))) d8 (by rfl)) (by rfl))) d8 (by rfl))) (T7 (i:=1) ja.nd rfl (A2 rfl))
  (@m7 _ _ _ _ _ (@F9 _ _ 2 _ _ _ _ ja.nd rfl (A2 rfl) (B9 C.state hr rfl (@b7 _ _ _ _ _ (pv 0) (@b7 _ _ _ _ _ (pv 1) d8 (by rfl)) (by rfl))) (by rfl) (by first|exact .inl rfl|exact .inr rfl))
  (@m7 _ _ _ _ _ (@F9 _ _ 3 _ _ _ _ ja.nd rfl (A2 rfl) (@D5 _ _ _ _ _ _ _ _ Z5 j0 (B9 C.take hr rfl (@b7 _ _ _ _ _ (pv 2) (@b7 _ _ _ _ _ j0 d8 (by rfl)) (by rfl)))) (by rfl) (by first|exact .inl rfl|exact .inr rfl))
  (@m7 _ _ _ _ _ (kB (i:=4) (j:=5) rfl ja.nd rfl rfl (by decide) rfl rfl (@b7 _ _ _ _ _ (B9 C.urn hr rfl (@b7 _ _ _ _ _ (pv 2) (@b7 _ _ _ _ _ (pv 3) d8 (by rfl)) (by rfl))) (@b7 _ _ _ _ _ (B9 C.urn hr rfl (@b7 _ _ _ _ _ (pv 2) (@b7 _ _ _ _ _ (pv 3) d8 (by rfl)) (by rfl))) d8 (by rfl)) (by rfl)) rfl)
  (@m7 _ _ _ _ _ (kB (i:=6) (j:=7) rfl ja.nd rfl rfl (by decide) rfl rfl (@b7 _ _ _ _ _ (B9 C.rule hr rfl (@b7 _ _ _ _ _ (pv 2) (@b7 _ _ _ _ _ (pv 3) d8 (by rfl)) (by rfl))) (@b7 _ _ _ _ _ (B9 C.take hr rfl (@b7 _ _ _ _ _ (pv 2) (@b7 _ _ _ _ _ (@G4 _ _ _ _ _ _ _ R8 (@N8 _ _ _ _ (@b7 _ _ _ _ _ j0 (@b7 _ _ _ _ _ j0 d8 (by rfl)) (by rfl))) (G7 eU rfl B.int jX (@b7 _ _ _ _ _ (dR (df rO (pv 1) j0 (O8 _)) (cP (df rO (pv 3) j0 (O8 _)))) d8 (by rfl))) (fun _ _=>rfl)) d8 (by rfl)) (by rfl))) d8 (by rfl)) (by rfl)) rfl)
  (@m7 _ _ _ _ _ (V6 (bo (ar (B9 C.same hr rfl (@b7 _ _ _ _ _ (cm C.ts hr rfl CY (@b7 _ _ _ _ _ (pv 4) (@b7 _ _ _ _ _ (pv 5) (@b7 _ _ _ _ _ (pv 6) (@b7 _ _ _ _ _ (pv 7) d8 (by rfl)) (by rfl)) (by rfl)) (by rfl))) (@b7 _ _ _ _ _ (B9 C.due hr rfl (@b7 _ _ _ _ _ (pv 4) (@b7 _ _ _ _ _ (pv 5) (@b7 _ _ _ _ _ (pv 6) (@b7 _ _ _ _ _ (pv 7) d8 (by rfl)) (by rfl)) (by rfl)) (by rfl))) d8 (by rfl)) (by rfl))))) (@t6 _ _ _ (D7 dF)) K9)
  (@t6 _ _ _ (cO J7 rfl (dc (B9 C.fours hr rfl (@b7 _ _ _ _ _ (pv 2) (@b7 _ _ _ _ _ (pv 4) (@b7 _ _ _ _ _ (pv 5) (@b7 _ _ _ _ _ (pv 6) (@b7 _ _ _ _ _ (pv 7) d8 (by rfl)) (by rfl)) (by rfl)) (by rfl)) (by rfl)))) (T7 (i:=8) ja.nd rfl (gH rfl))
  (@m7 _ _ _ _ _ (@F9 _ _ 9 _ _ _ _ ja.nd rfl (A2 rfl) (B9 C.word hr rfl (@b7 _ _ _ _ _ (@G4 _ _ _ _ _ _ _ L7 (pv 8) j0 (fun _ _=>rfl)) (@b7 _ _ _ _ _ (@G4 _ _ _ _ _ _ _ L7 (pv 8) j0 (fun _ _=>rfl)) (@b7 _ _ _ _ _ (@G4 _ _ _ _ _ _ _ L7 (pv 8) j0 (fun _ _=>rfl)) (@b7 _ _ _ _ _ (@G4 _ _ _ _ _ _ _ L7 (pv 8) j0 (fun _ _=>rfl)) (@b7 _ _ _ _ _ j0 d8 (by rfl)) (by rfl)) (by rfl)) (by rfl)) (by rfl))) (by rfl) (by first|exact .inl rfl|exact .inr rfl))
  (@t6 _ _ _ (V6 (@R7 _ _ _ _ _ _ _ _ jU (CU C.refused hr rfl (@b7 _ _ _ _ _ (AE (Z _ rfl rfl rfl)) d8 (by rfl))) (pv 9) (O8 _)) (@t6 _ _ _ (D7 dF)) K9)))))))))))
  (@t6 _ _ _ (D7 dF)))),?_⟩
 refine nmS fun D0 n0 _=>?_
 obtain ⟨ps0,hT0,_⟩:=id hCT
 refine ⟨(by show 2<=i6;decide),fun p1 hnp1=>⟨(by show 2<=i6;decide),fun p2 hnp2=>⟨(by show 2<=i6;decide),fun p3 hnp3=>⟨(by show 2<=i6;decide),fun p4 hnp4=>⟨(by show 2<=i6;decide),fun p5 hnp5=>?_⟩⟩⟩⟩⟩
 have gp1:i7 H (n5 H p1 (.tup [.int 1,.int 0])):=i7.new hnp1
 have hp1:n5 H p1 (.tup [.int 1,.int 0]) p1=some (.tup [.int 1,.int 0]):=f7
 generalize n5 H p1 (.tup [.int 1,.int 0])=Jp1 at gp1 hp1 hnp2 hnp3 hnp4 hnp5
 have gp2:i7 Jp1 (n5 Jp1 p2 (.tup [.int 0,.int 1])):=i7.new hnp2
 have hp2:n5 Jp1 p2 (.tup [.int 0,.int 1]) p2=some (.tup [.int 0,.int 1]):=f7
 generalize n5 Jp1 p2 (.tup [.int 0,.int 1])=Jp2 at gp2 hp2 hnp3 hnp4 hnp5
 have gp3:i7 Jp2 (n5 Jp2 p3 (.tup [.int 0,.int 0])):=i7.new hnp3
 have hp3:n5 Jp2 p3 (.tup [.int 0,.int 0]) p3=some (.tup [.int 0,.int 0]):=f7
 generalize n5 Jp2 p3 (.tup [.int 0,.int 0])=Jp3 at gp3 hp3 hnp4 hnp5
 have gp4:i7 Jp3 (n5 Jp3 p4 (.tup [.int 1,.int 0])):=i7.new hnp4
 have hp4:n5 Jp3 p4 (.tup [.int 1,.int 0]) p4=some (.tup [.int 1,.int 0]):=f7
 generalize n5 Jp3 p4 (.tup [.int 1,.int 0])=Jp4 at gp4 hp4 hnp5
 have gp5:i7 Jp4 (n5 Jp4 p5 (.tup [.ref p3,.ref p4])):=i7.new hnp5
 have hp5:n5 Jp4 p5 (.tup [.ref p3,.ref p4]) p5=some (.tup [.ref p3,.ref p4]):=f7
 generalize n5 Jp4 p5 (.tup [.ref p3,.ref p4])=Jp5 at gp5 hp5
 have ep1:=((((gp2).trans gp3).trans gp4).trans gp5) _ _ hp1
 have ep2:=(((gp3).trans gp4).trans gp5) _ _ hp2
 have ep3:=((gp4).trans gp5) _ _ hp3
 have ep4:=(gp5) _ _ hp4
 have ep5:=(i7.refl _) _ _ hp5
 have ggp5:i7 H Jp5:=((((gp1).trans gp2).trans gp3).trans gp4).trans gp5
 have hTe:=ggp5 _ _ hT0
 have np1:p1≠T:=fun e=>by rw[e] at ep1;rw[hTe] at ep1;cases ep1
 have np2:p2≠T:=fun e=>by rw[e] at ep2;rw[hTe] at ep2;cases ep2
 have np3:p3≠T:=fun e=>by rw[e] at ep3;rw[hTe] at ep3;cases ep3
 have np4:p4≠T:=fun e=>by rw[e] at ep4;rw[hTe] at ep4;cases ep4
 have np5:p5≠T:=fun e=>by rw[e] at ep5;rw[hTe] at ep5;cases ep5
 have hRb:Mt.lU 2 5 [[0,0],[1,0]]:=⟨rfl,fun r hr=>by
  simp only[B6,C3,or_false] at hr
  rcases hr with rfl|rfl
  ·exact ⟨rfl,by decide⟩
  ·exact ⟨rfl,by decide⟩⟩
 have hUb:Mt.aq 2 20 [1,0]:=⟨rfl,by decide,by decide⟩
 have hVb:Mt.aq 2 20 [0,1]:=⟨rfl,by decide,by decide⟩
 refine .inr ⟨T,p1,p2,.ref p5,2,0,[1,0],[0,1],[[0,0],[1,0]],rfl,⟨Dt.mkI np1 ep1,hUb,Dt.mkI np2 ep2,hVb,Dt.tup np5 ep5 (S3.cons (Dt.mkI (ns:=[0,0]) np3 ep3) (S3.cons (Dt.mkI (ns:=[1,0]) np4 ep4) (S3.nil _ _))),hRb,by decide,by decide,by decide⟩,fun D0 T0 Hz gz hTp0 hTo0 hS0=>?_⟩
 have eT0:T0=[([1,0,0,1],1)]:=by
  have ec:tw 2 [[0,0],[1,0]] 0 [1,0] [0,1]=[([1,0,0,1],1)]:=by decide +kernel
  rw[ec] at hTp0
  exact List.perm_singleton.mp hTp0
 subst eT0
 refine ⟨(by show 2<=i6;decide),fun a1 hna1=>⟨(by show 2<=i6;decide),fun a2 hna2=>⟨(by show 2<=i6;decide),fun a3 hna3=>⟨(by show 2<=i6;decide),fun a4 hna4=>⟨(by show 2<=i6;decide),fun a5 hna5=>⟨(by show 2<=i6;decide),fun a6 hna6=>⟨(by show 2<=i6;decide),fun a7 hna7=>?_⟩⟩⟩⟩⟩⟩⟩
 have ga1:i7 Hz (n5 Hz a1 (.tup [.int 1,.int 1])):=i7.new hna1
 have ha1:n5 Hz a1 (.tup [.int 1,.int 1]) a1=some (.tup [.int 1,.int 1]):=f7
 generalize n5 Hz a1 (.tup [.int 1,.int 1])=Ja1 at ga1 ha1 hna2 hna3 hna4 hna5 hna6 hna7
 have ga2:i7 Ja1 (n5 Ja1 a2 (.tup [.int 0,.int 1])):=i7.new hna2
 have ha2:n5 Ja1 a2 (.tup [.int 0,.int 1]) a2=some (.tup [.int 0,.int 1]):=f7
 generalize n5 Ja1 a2 (.tup [.int 0,.int 1])=Ja2 at ga2 ha2 hna3 hna4 hna5 hna6 hna7
 have ga3:i7 Ja2 (n5 Ja2 a3 (.tup [.ref a1,.ref a2])):=i7.new hna3
 have ha3:n5 Ja2 a3 (.tup [.ref a1,.ref a2]) a3=some (.tup [.ref a1,.ref a2]):=f7
 generalize n5 Ja2 a3 (.tup [.ref a1,.ref a2])=Ja3 at ga3 ha3 hna4 hna5 hna6 hna7
 have ga4:i7 Ja3 (n5 Ja3 a4 (.tup [.int 0,.int 1])):=i7.new hna4
 have ha4:n5 Ja3 a4 (.tup [.int 0,.int 1]) a4=some (.tup [.int 0,.int 1]):=f7
 generalize n5 Ja3 a4 (.tup [.int 0,.int 1])=Ja4 at ga4 ha4 hna5 hna6 hna7
 have ga5:i7 Ja4 (n5 Ja4 a5 (.tup [.int 1,.int 1])):=i7.new hna5
 have ha5:n5 Ja4 a5 (.tup [.int 1,.int 1]) a5=some (.tup [.int 1,.int 1]):=f7
 generalize n5 Ja4 a5 (.tup [.int 1,.int 1])=Ja5 at ga5 ha5 hna6 hna7
 have ga6:i7 Ja5 (n5 Ja5 a6 (.tup [.ref a4,.ref a5])):=i7.new hna6
 have ha6:n5 Ja5 a6 (.tup [.ref a4,.ref a5]) a6=some (.tup [.ref a4,.ref a5]):=f7
 generalize n5 Ja5 a6 (.tup [.ref a4,.ref a5])=Ja6 at ga6 ha6 hna7
 have ga7:i7 Ja6 (n5 Ja6 a7 (.tup [.ref a3,.ref a6])):=i7.new hna7
 have ha7:n5 Ja6 a7 (.tup [.ref a3,.ref a6]) a7=some (.tup [.ref a3,.ref a6]):=f7
 generalize n5 Ja6 a7 (.tup [.ref a3,.ref a6])=Ja7 at ga7 ha7
 have ea1:=((((((ga2).trans ga3).trans ga4).trans ga5).trans ga6).trans ga7) _ _ ha1
 have ea2:=(((((ga3).trans ga4).trans ga5).trans ga6).trans ga7) _ _ ha2
 have ea3:=((((ga4).trans ga5).trans ga6).trans ga7) _ _ ha3
 have ea4:=(((ga5).trans ga6).trans ga7) _ _ ha4
 have ea5:=((ga6).trans ga7) _ _ ha5
 have ea6:=(ga7) _ _ ha6
 have ea7:=(i7.refl _) _ _ ha7
 have gga7:i7 Hz Ja7:=((((((ga1).trans ga2).trans ga3).trans ga4).trans ga5).trans ga6).trans ga7
 obtain ⟨st0,d1,d2⟩:=yZ (hS0.mono gga7) (show Ss 2 [([1,0,0,1],1)] Ja7 a7 from ⟨a3,a6,_,_,ea7,ea3,by
  rw[show yq (aJ 2) [([1,0,0,1],1)] 2=[1,0] by decide +kernel]
  exact ⟨⟨a1,rfl,ea1⟩,⟨a2,rfl,ea2⟩,trivial⟩,ea6,by
  rw[show yq (aK 2) [([1,0,0,1],1)] 2=[0,1] by decide +kernel]
  exact ⟨⟨a4,rfl,ea4⟩,⟨a5,rfl,ea5⟩,trivial⟩⟩)
 refine ⟨st0,_,_,d1,d2,by decide +kernel,by decide +kernel,?_⟩
 rw[show rA (Je 2 [([1,0,0,1],1)]) (Je 2 [([1,0,0,1],1)])=true by decide +kernel]
 refine ⟨_,rfl,W3 ?_⟩
 refine n0 _ _ ?_
 have gTot:i7 H Ja7:=(ggp5.trans gz).trans gga7
 clear hTe np1 np2 np3 np4 np5 ep1 ep2 ep3 ep4 ep5 ea1 ea2 ea3 ea4 ea5 ea6 ea7 hS0 d1 d2
 generalize Ja7=Hy at gTot
 have hS0:eV K Hy a (scr.map V.int):=by
  rcases hS with (h|⟨o,h⟩)|h
  ·exact .inl (.inl (gTot _ _ h))
  ·exact .inl (.inr ⟨o,gTot _ _ h⟩)
  ·exact .inr h
 have hCT0:=hCT.same gTot
 show iO _ _ _ _ Hy
 refine ⟨_,rfl,a,_,rfl,.inl hS0,_,_,rfl,_,_,rfl,_,rfl,?_,?_,?_⟩
 ·split <;> split <;> lia
 ·rw[d6];split <;> split <;> lia
 refine eQ (lo:=0) (fun i σ H2=>eV K H2 a (scr.map V.int)/\nu lq T H2/\∃o1 o2 o3 o4 o5 o6 o7 o8 o9,σ=[some (.ref a),o1,o2,o3,o4,o5,o6,o7,o8,o9])
  ⟨hS0,hCT0,none,none,none,none,none,none,none,none,none,rfl⟩ (fun i σ H2 hi h=>?_) (fun σ H2 h=>q _)
 clear hS0 hCT0 gTot
 refine fS fun R k_=>?_
 obtain ⟨hS2,hCT2,o1,o2,o3,o4,o5,o6,o7,o8,o9,rfl⟩:=h
 refine k_ ?_
 have e0:(0:Int)+(i:Int)=(i:Int):=by lia
 rw[e0]
 refine Jh fun D_ n_ _=>?_
 refine ⟨_,rfl,_,rfl,a,scr,i,rfl,hS2,fun l x b hl hst=>?_⟩
 have s3:ak l b (n5 H2 l (.lst [.int x,.bl b])) (n5 H2 l (.lst [.int x,.bl b])):=ak.start f7 hst
 have hCT3:nu lq T (n5 H2 l (.lst [.int x,.bl b])):=hCT2.same (i7.new hl)
 have hA:∀H',Kp l (n5 H2 l (.lst [.int x,.bl b])) H'->eV K H' a (scr.map V.int):=fun H' k=>by
  rcases hS2 with (h|⟨o,h⟩)|h
  ·exact .inl (.inl (k _ _ (v5 h hl) (i7.new hl _ _ h)))
  ·exact .inl (.inr ⟨o,k _ _ (v5 h hl) (i7.new hl _ _ h)⟩)
  ·exact .inr h
 show iO _ _ _ _ (n5 H2 l (.lst [.int x,.bl b]))
 generalize n5 H2 l (.lst [.int x,.bl b])=H3 at s3 hCT3 hA
 clear hS2 hCT2 hl hst
 refine fS fun R k_=>?_
 obtain ⟨_,x3,hx3,ok3⟩:=id s3
 refine k_ ?_
 refine ⟨_,rfl,l,4,x3,b,rfl,hx3,ok3,by decide,by decide,fun y x1 hy ok1=>⟨_,_,rfl,rfl,?_⟩⟩
 have en:(1:Int)+(y:Int)=((1+y:Nat):Int):=by lia
 try dsimp only
 rw[en]
 have n1:1<=1+y:=by lia
 have n4:1+y<=4:=by lia
 generalize 1+y=n at n1 n4
 have s4:=s3.go ok1
 generalize n5 H3 l (.lst [.int x1,.bl b])=H4 at s4
 refine fS fun R k_=>?_
 obtain ⟨_,x4,hx4,ok4⟩:=id s4
 refine k_ ?_
 refine ⟨_,rfl,_,rfl,l,n,x4,b,rfl,hx4,ok4,n1,n4,fun ua H5 us s5' hua hU=>?_⟩
 have s5:=s4.trans s5'
 have nua:=s5.neL hua
 refine fS fun R k_=>?_
 obtain ⟨_,x5,hx5,ok5⟩:=id s5
 refine k_ ?_
 refine ⟨_,rfl,_,rfl,l,n,x5,b,rfl,hx5,ok5,n1,n4,fun wa H6 ws s6' hwa hW=>?_⟩
 have s6:=s5.trans s6'
 have nwa:=s6.neL hwa
 have hua6:=s6'.1 _ _ nua hua
 refine ⟨_,_,rfl,?_⟩
 try dsimp -proj only[V7]
 refine fS fun R k_=>?_
 obtain ⟨_,x6,hx6,ok6⟩:=id s6
 refine k_ ?_
 dsimp only
 refine Ax (fun σ' Hx=>∃(rv:V) (rs:List (List Int)) (dr:Nat),dr<=4/\ak l b H3 Hx/\Kp l H6 Hx/\Dt l Hx (DR rs) rv/\Mt.lU n 5 rs/\σ'=[some (.ref a),some (.int i),some (.ref l),some (.int n),some (.ref ua),some (.ref wa),some rv,some (.int dr),o8,o9]) (fun N hN=>?_) (fun σ' H8 h=>?_)
 ·refine ⟨_,rfl,_,rfl,l,n,x6,b,rfl,hx6,ok6,n1,n4,fun rv H7 rs s7' hrd hR=>?_⟩
  refine ⟨_,rfl,(by show 2<=i6;decide),fun pd hpd=>⟨_,rfl,_,_,rfl,rfl,_,rfl,?_⟩⟩
  have s7:=(s6.trans s7').new (o:=.lst [.int 5,.int 4]) hpd
  have k7:Kp l H6 (n5 H7 pd (.lst [.int 5,.int 4])):=s7'.1.trans ((i7.new hpd).kp l)
  have hrd7:=hrd.kp ((i7.new (o:=.lst [.int 5,.int 4]) hpd).kp l)
  have hpd7:n5 H7 pd (.lst [.int 5,.int 4]) pd=some (.lst [.int 5,.int 4]):=f7
  try dsimp only
  generalize n5 H7 pd (.lst [.int 5,.int 4])=H8 at s7 hpd7 k7 hrd7
  refine fS fun R k_=>?_
  obtain ⟨_,x7,hx7,ok7⟩:=id s7
  refine k_ ?_
  cases decide ((0:Int)<(i:Int)) with
  | false=>exact W3 (.inr ⟨_,rfl,pd,_,_,_,rfl,rfl,.of hpd7,(by rfl),l,5,x7,b,rfl,hx7,ok7,by decide,by decide,fun d x8 hd ok8=>⟨_,_,rfl,hN _ _ ⟨rv,rs,d,by lia,s7.go ok8,k7.trans Kp.at,hrd7.kp Kp.at,hR,rfl⟩⟩⟩)
  | true =>
   refine V0 ⟨_,rfl,_,_,rfl,rfl,.inr ⟨_,rfl,?_⟩⟩
   cases decide ((3:Int)<(n:Int)) with
   | false=>exact ⟨pd,_,_,_,rfl,rfl,.of hpd7,(by rfl),l,5,x7,b,rfl,hx7,ok7,by decide,by decide,fun d x8 hd ok8=>⟨_,_,rfl,hN _ _ ⟨rv,rs,d,by lia,s7.go ok8,k7.trans Kp.at,hrd7.kp Kp.at,hR,rfl⟩⟩⟩
   | true=>exact ⟨pd,_,_,_,rfl,rfl,.of hpd7,(by rfl),l,4,x7,b,rfl,hx7,ok7,by decide,by decide,fun d x8 hd ok8=>⟨_,_,rfl,hN _ _ ⟨rv,rs,d,by lia,s7.go ok8,k7.trans Kp.at,hrd7.kp Kp.at,hR,rfl⟩⟩⟩
 refine fS fun R k_=>?_
 obtain ⟨rv,rs,dr,k4,s8,k8,hrd8,hR,rfl⟩:=h
 refine k_ ?_
 have hua8:=k8 _ _ nua hua6
 have hwa8:=k8 _ _ nwa hwa
 clear hua6 hua hwa s6' s5' s6 s5 s4 k8
 refine fS fun R k_=>?_
 obtain ⟨hku,hnd,_,htl⟩:=vi hR n1 n4 hU hW k4
 refine k_ ?_
 refine ⟨_,rfl,_,rfl,_,rfl,_,rfl,.inr ⟨l,ua,wa,rv,n,dr,us,ws,rs,rfl,⟨Dt.mkI nua hua8,hU,Dt.mkI nwa hwa8,hW,hrd8,hR,n1,n4,k4⟩,fun pf Tf H9 g9 hTpf hTof hSf=>?_⟩⟩
 refine ⟨_,rfl,_,rfl,_,rfl,_,rfl,ua,wa,l,rv,n,dr,us,ws,rs,rfl,g9 _ _ hua8,g9 _ _ hwa8,hU,hW,hrd8.kp (g9.kp l),hR,n1,n4,k4,fun pd Td H10 g10 hTpd hTod hSd=>?_⟩
 have eT:Tf=Td:=pR hTof hTod (by
  unfold fq at hnd ⊢
  exact (hTpf.map _).nodup_iff.mpr hnd) (hTpf.trans hTpd.symm)
 subst eT
 obtain ⟨st1,dt1,dt2⟩:=yZ (hSf.mono g10) hSd
 refine ⟨_,_,st1,_,rfl,dt1,dt2,Ic n4,fun Hc gm=>⟨_,rfl,W3 ?_⟩⟩
 have gc:=(g9.trans g10).trans gm
 have s11:=s8.same gc
 have hua11:=gc _ _ hua8
 have hwa11:=gc _ _ hwa8
 have hrd11:=hrd8.kp (gc.kp l)
 clear hSf hSd hTpf hTof hTpd hTod hku hnd htl dt1 dt2
 refine fS fun R k_=>?_
 obtain ⟨_,x11,hx11,ok11⟩:=id s11
 refine k_ ?_
 refine ⟨_,rfl,_,rfl,_,rfl,_,rfl,_,rfl,l,ua,wa,rv,x11,b,n,dr,us,ws,rs,rfl,hx11,ok11,Dt.mkI nua hua11,hU,Dt.mkI nwa hwa11,hW,hrd11,hR,n1,n4,fun pr rows Hr s12 nprl hpr hrl hrows=>?_⟩
 have sr:=s11.trans s12
 have hCTr:nu lq T Hr:=by
  refine fS fun R k_=>?_
  obtain ⟨_,x3',hx3',_⟩:=id s3
  refine k_ ?_
  exact hCT3.kp hx3' sr.1
 obtain ⟨psr,hTr,_⟩:=id hCTr
 have npr:pr≠T:=fun e=>by rw[e,hTr] at hpr;cases hpr
 have hSr:=hA Hr sr.1
 refine ⟨pr,rfl,⟨_,.of hpr⟩,?_⟩
 refine lO (K:=K) (a:=pr) (xs:=rows) (fun j σ Hj=>Kp T Hr Hj/\nu lq T Hj/\∃o8 o9,σ=[some (.ref a),some (.int i),some (.ref l),some (.int n),some (.ref ua),some (.ref wa),some rv,some (.int dr),o8,o9])
  ⟨Kp.refl _ _,hCTr,o8,o9,rfl⟩ (fun j σ Hj _ h=>.of (h.1 _ _ npr hpr)) (fun j z σ Hj hz h=>?_) (fun σ Hs h=>?_)
 ·refine fS fun R k_=>?_
  obtain ⟨kj,hCTj,o11',o12',rfl⟩:=h
  refine k_ ?_
  refine fS fun R k_=>?_
  obtain ⟨t,vu,vv,vx,vy,rfl,ntl,ht,⟨d,du,sd⟩,⟨e,de,se⟩,⟨r,dr',okr⟩,⟨g,dg⟩⟩:=hrows z (C5 hz)
  refine k_ ?_
  have ntT:t≠T:=fun e=>by rw[e,hTr] at ht;cases ht
  obtain ⟨psj,hTj,_⟩:=id hCTj
  have htj:=kj _ _ ntT ht
  have duj:=jD hTr kj du
  have dej:=jD hTr kj de
  have drj:=jD hTr kj dr'
  have dgj:=jD hTr kj dg
  refine ⟨_,rfl,t,_,_,_,rfl,rfl,.of htj,rfl,_,rfl,t,_,_,_,rfl,rfl,.of htj,rfl,_,rfl,t,_,_,_,rfl,rfl,.of htj,rfl,_,rfl,t,_,_,_,rfl,rfl,.of htj,rfl,vu,vv,vx,vy,l,d,e,r,g,rfl,duj,sd,dej,se,drj,dgj,fun ow Hm hw gm=>?_⟩
  have how:∀i,ow=some i->i<10:=fun i e=>by
   subst e
   rcases hw with h|h|h|h <;> (rw[h.1];decide)
  have hCTm:=hCTj.same gm
  have hTm:=gm _ _ hTj
  refine fun Zc=>⟨hCTm,fun f0 c0 ctv Hl hkl hCTl hfn hf0 hc0 Hf frz=>?_⟩
  refine Fo (k:=8) (N:=["_law_row"]) (ix:=[some 8]) (o:=ow) Zc frz ⟨c0,ctv,hf0,hc0⟩ rfl rfl rfl rfl (by decide +kernel) rfl how (fun _ _=>rfl) (fun c1 A' outer' s' E1 Q1 hr' hin hE=>⟨_,cm C.ts8 hr' rfl Fb (b7 (G4 L7 (pv 0) j0 (fun _ _=>rfl)) (b7 (G4 L7 (pv 0) j0 (fun _ _=>rfl)) (b7 (G4 L7 (pv 0) j0 (fun _ _=>rfl)) (b7 (G4 L7 (pv 0) j0 (fun _ _=>rfl)) d8)))),?_⟩) (fun Ho g=>⟨_,rfl,Cv ow how,_,rfl,KL rfl ?_⟩)
  ·have up:∀{dd:B0}{vv:V},Dt l Hj dd vv->Dt l _ dd vv:=fun {dd vv} hh=>(jD hTm hkl (hh.kp (gm.kp l))).kp (hin.kp l)
   have htl:=hin _ _ (hkl _ _ ntT (gm _ _ htj))
   exact ⟨_,rfl,t,_,_,_,rfl,rfl,.of htl,rfl,_,rfl,t,_,_,_,rfl,rfl,.of htl,rfl,_,rfl,t,_,_,_,rfl,rfl,.of htl,rfl,_,rfl,t,_,_,_,rfl,rfl,.of htl,rfl,GF (up duj) sd (up dej) se (up drj) okr (up dgj) hw hE⟩
  ·exact ⟨(kj.trans (gm.kp T)).trans (Kp.trans (show Kp T Hm Hl from hkl) ((frz.back g).kp T)),hCTl.same (frz.back g),_,_,rfl⟩
 refine fS fun R k_=>?_
 obtain ⟨ks,hCTs,o11',o12',rfl⟩:=h
 refine k_ ?_
 exact n_ _ _ ⟨IC hTr ks hSr,hCTs,_,_,_,_,_,_,_,_,_,rfl⟩
end
end G
set_option maxHeartbeats 4000000
namespace G
open PySem PySem.Spec PyProof.Rows L2 Mt
noncomputable def eG (K:m9) (x:Str) (st:Stmt):Prop:=∃(f:Addr) (oc:b9) (od:Option Addr) (kV doc pm:b9) (an:Option Addr) (cdv ct:b9) (sl:Array (Option b9)),
 O7 K t9 x=some (some (.ref f))/\K.lookup f=some ⟨oc,od,.func (gN x x (eD st) (bf st) (A1 st) .none kV doc pm an cdv ct),sl⟩/\jF K cdv x=true/\cD K (.ref f)=true
variable {K:m9}{x:Str}
theorem G9 {st:Stmt}{f:Addr}{oc:b9}{od:Option Addr}{kV doc pm:b9}{an:Option Addr}{cdv ct:b9}{sl:Array (Option b9)}
  (a:O7 K t9 x=some (some (.ref f))) (l:K.lookup f=some ⟨oc,od,.func (gN x x (eD st) (bf st) (A1 st) .none kV doc pm an cdv ct),sl⟩) (c:jF K cdv x=true) (k:cD K (.ref f)=true):eG K x st :=
 ⟨f,oc,od,kV,doc,pm,an,cdv,ct,sl,a,l,c,k⟩
noncomputable def Lk (K:m9) (x:Str) (st:Stmt) (T:Addr):Prop:=∃(f:Addr) (oc:b9) (od:Option Addr) (kV doc pm:b9) (an:Option Addr) (cc:Addr) (ct:b9) (sl:Array (Option b9)),
 O7 K t9 x=some (some (.ref f))/\K.lookup f=some ⟨oc,od,.func (gN x x (eD st) (bf st) (A1 st) .none kV doc pm an (.ref cc) ct),sl⟩/\jF K (.ref cc) x=true/\cD K (.ref f)=true/\jY K cc T=true/\K.lookup T=none
variable {T:Addr}
theorem Fu {st:Stmt}{f:Addr}{oc:b9}{od:Option Addr}{kV doc pm:b9}{an:Option Addr}{cc:Addr}{ct:b9}{sl:Array (Option b9)}
  (a:O7 K t9 x=some (some (.ref f))) (l:K.lookup f=some ⟨oc,od,.func (gN x x (eD st) (bf st) (A1 st) .none kV doc pm an (.ref cc) ct),sl⟩) (c:jF K (.ref cc) x=true) (k:cD K (.ref f)=true) (t:jY K cc T=true) (n:K.lookup T=none):Lk K x st T :=
 ⟨f,oc,od,kV,doc,pm,an,cc,ct,sl,a,l,c,k,t,n⟩
variable {w:r9}{mg:Str->Option b9}{h:Heap}
theorem M5 {P:j6}{base:Heap}{st:Stmt}{ps:List Str}{k:Nat}{sp:Sp} (X:K.In h) (G:h.Ns t9 mg) (H:eG K x st)
  (hb:∀(f:Addr) (fd:D6),bT K x x st f fd->jV K fd ps []) (ok:∀(f:Addr) (fd:D6),bT K x x st f fd->N0 P w K mg base dI k f fd ps sp):V4 P w K mg base k x ps sp:=by
 obtain ⟨f,oc,od,kV,doc,pm,an,cdv,ct,sl,a,l,c,kp⟩:=H
 have F:=yC (st:=st) l c kp
 exact ⟨f,_,ao X G a,kp,hb _ _ F,ok _ _ F⟩
theorem iu {P:j6}{base:Heap}{st:Stmt}{ps:List Str}{k:Nat}{sp:Sp} (X:K.In h) (G:h.Ns t9 mg) (H:eG K x st)
  (hb:∀(f:Addr) (fd:D6),bT K x x st f fd->jV K fd ps []) (ok:∀(f:Addr) (fd:D6),bT K x x st f fd->N0 P w K mg base (kT P w) k f fd ps sp):fU P w K mg base k x ps sp:=by
 obtain ⟨f,oc,od,kV,doc,pm,an,cdv,ct,sl,a,l,c,kp⟩:=H
 have F:=yC (st:=st) l c kp
 exact ⟨f,_,ao X G a,kp,hb _ _ F,ok _ _ F⟩
noncomputable def wx (K:m9) (B:Addr):List Addr->Bool
 | []=>true
 | C::cs=>IU K C vE "ValueError.__new__"&&X8 K (.ref C) "__getattribute__" == some (some (.builtin "BaseException.__getattribute__"))&&X8 K (.ref C) "__getattr__" == some none&&nA K (.ref C) (.type "BaseException") == some true&&(wU K C).isSome&&X8 K (.ref C) "__class__" == some (some (.builtin "object.__class__")) &&
   IT K C (.type "object") == some true&&xm K (.ref C) (.ref B) == some true&&cC K (.ref C) (.type "ValueError") == some true&&wx K B cs
noncomputable def KY (K:m9) (B:Addr):Bool:=mj K (.builtin "object.__class__") "__get__" == some (some (.builtin "getset_descriptor.__get__"))&&Bo K (.builtin "object.__class__") == some true&&nA K (.ref B) (.type "BaseException") == some true
noncomputable def errC (K:m9) (cs:List Addr):Bool:=(R0 10).all fun i=>(R0 10).all fun j=>cC K (.ref (cs.getD i 0)) (.ref (cs.getD j 0)) == some (decide (i=j))
theorem wt {K:m9}{B:Addr}:∀{cs:List Addr}{i:Nat},wx K B cs=true->i<cs.length->wx K B [cs.getD i 0]=true
 | C::cs,0,h,_=>by
  unfold wx at h
  rw[A6] at h
  unfold wx
  rw[A6]
  exact ⟨h.1,rfl⟩
 | C::cs,i+1,h,hi=>by
  unfold wx at h
  rw[A6] at h
  have:=wt (cs:=cs) (i:=i) h.2 (by simpa using hi)
  simpa using this
theorem Fx {a0 a1 a2 a3 a4 a5 a6 a7 a8 a9 B:Addr} (X:K.In h) (G:h.Ns t9 mg)
  (e0:O7 K t9 "NoUrn"=some (some (.ref a0))) (e1:O7 K t9 "NoRule"=some (some (.ref a1))) (e2:O7 K t9 "NoKind"=some (some (.ref a2))) (e3:O7 K t9 "NoBall"=some (some (.ref a3))) (e4:O7 K t9 "NoDraws"=some (some (.ref a4)))
  (e5:O7 K t9 "NoNumber"=some (some (.ref a5))) (e6:O7 K t9 "NotEven"=some (some (.ref a6))) (e7:O7 K t9 "NoCounts"=some (some (.ref a7))) (e8:O7 K t9 "NotAlike"=some (some (.ref a8))) (e9:O7 K t9 "BadNote"=some (some (.ref a9)))
  (eb:O7 K t9 "UrnError"=some (some (.ref B))) (hA:wx K B [a0,a1,a2,a3,a4,a5,a6,a7,a8,a9]=true) (hB:KY K B=true) (hC:errC K [a0,a1,a2,a3,a4,a5,a6,a7,a8,a9]=true):
  yO K mg (fun i=>[a0,a1,a2,a3,a4,a5,a6,a7,a8,a9].getD i 0) B:=by
 unfold KY at hB
 simp only[A6,beq_iff_eq] at hB
 obtain ⟨⟨b1,b2⟩,b3⟩:=hB
 have A:∀i,i<10->_:=fun i hi=>wt (i:=i) hA hi
 have A':∀i,i<10->((((((((IU K ([a0,a1,a2,a3,a4,a5,a6,a7,a8,a9].getD i 0) vE "ValueError.__new__"=true/\X8 K (.ref ([a0,a1,a2,a3,a4,a5,a6,a7,a8,a9].getD i 0)) "__getattribute__"=some (some (.builtin "BaseException.__getattribute__")))/\X8 K (.ref ([a0,a1,a2,a3,a4,a5,a6,a7,a8,a9].getD i 0)) "__getattr__"=some none)/\nA K (.ref ([a0,a1,a2,a3,a4,a5,a6,a7,a8,a9].getD i 0)) (.type "BaseException")=some true)/\(wU K ([a0,a1,a2,a3,a4,a5,a6,a7,a8,a9].getD i 0)).isSome=true) /\
   X8 K (.ref ([a0,a1,a2,a3,a4,a5,a6,a7,a8,a9].getD i 0)) "__class__"=some (some (.builtin "object.__class__")))/\IT K ([a0,a1,a2,a3,a4,a5,a6,a7,a8,a9].getD i 0) (.type "object")=some true)/\xm K (.ref ([a0,a1,a2,a3,a4,a5,a6,a7,a8,a9].getD i 0)) (.ref B)=some true) /\
   cC K (.ref ([a0,a1,a2,a3,a4,a5,a6,a7,a8,a9].getD i 0)) (.type "ValueError")=some true):=fun i hi=>by
  have z:=A i hi
  unfold wx at z
  rw[A6] at z
  have z1:=z.1
  simp only[A6,beq_iff_eq] at z1
  exact z1
 exact ⟨ao X G e0,ao X G e1,ao X G e2,ao X G e3,ao X G e4,ao X G e5,ao X G e6,ao X G e7,ao X G e8,ao X G e9,ao X G eb,
  fun i hi=>(A' i hi).1.1.1.1.1.1.1.1,fun i hi=>⟨(A' i hi).1.1.1.1.1.1.1.2,(A' i hi).1.1.1.1.1.1.2,(A' i hi).1.1.1.1.1.2,(A' i hi).1.1.1.1.2,(A' i hi).1.1.1.2,b1,b2,(A' i hi).1.1.2⟩,fun i hi=>(A' i hi).1.2,b3,
  fun i j hi hj=>by
   have z:=List.all_eq_true.mp (List.all_eq_true.mp hC i (List.mem_range.mpr hi)) j (List.mem_range.mpr hj)
   exact beq_iff_eq.mp z,fun i hi=>(A' i hi).2⟩
theorem Iy {l:Jw}{fa Bs:Addr}{c:Nat->Addr} (X:K.In h) (G:h.Ns t9 mg) (hfa:mg "law"=some (.ref fa)) (R:yO K mg c Bs)
  (h1:eG K "is_number" je) (h2:eG K "is_whole" kq) (h3:eG K "are_wholes" ic) (h4:eG K "need_number" fN) (h5:eG K "is_urn_up_to" fh) (h6:eG K "is_urn" pI) (h7:eG K "is_rule" mK) (h8:eG K "need_urn" km) (h9:eG K "need_rule" jc) (h10:eG K "greatest_divisor" Hk) (h11:eG K "fraction" kr) (h12:eG K "times" tP) (h13:eG K "plus" xO) (h14:eG K "put_in" pF) (h15:eG K "own_urn" mI) (h16:eG K "_law_cell_at" mL) (h17:eG K "_law_state" tQ) (h18:eG K "_law_take" xN) (h19:eG K "_law_refused" mH) (h20:eG K "_law_urn_of" xP) (h21:eG K "_law_rule" tS) (h22:eG K "_law_whole" tM) (h23:eG K "_law_is_urn" mJ) (h24:eG K "_law_is_rule" ko) (h25:eG K "_law_bent_urn" Hv) (h26:eG K "_law_bent_rule" Hw) (h27:eG K "_law_odd" CC) (h28:eG K "_law_number" pG) (h29:eG K "_law_fraction" CG) (h30:eG K "_law_plus" tT) (h31:eG K "_law_by" Hu) (h32:eG K "need_two" GZ) (h33:eG K "share" tR) (h34:eG K "next_chances_of_two" CD) (h35:eG K "two_stands" GW) (h36:eG K "total" tN) (h37:eG K "mean_share" Hh) (h38:eG K "two_shares" GX) (h39:eG K "_law_pairs" GY) (h40:eG K "_law_due" CF) (h41:eG K "_law_same" jb) (h42:eG K "_law_same" jb) (h43:eG K "_law_same" jb) (h44:eG K "_law_same" jb) (h45:eG K "_law_word" GV) (h46:eG K "_law_fours" Ht)
  (hlaw:Lk K "law" pH T)
  (z1:O7 K t9 "isinstance"=some none) (z2:O7 K t9 "bool"=some none) (z3:O7 K t9 "int"=some none) (z4:O7 K t9 "tuple"=some none) (z5:O7 K t9 "list"=some none) (z6:O7 K t9 "all"=some none) (z7:O7 K t9 "sum"=some none) (z8:O7 K t9 "len"=some none) (z9:O7 K t9 "range"=some none) (z10:O7 K t9 "max"=some none) (z11:O7 K t9 "min"=some none) (z12:O7 K t9 "abs"=some none) (z13:O7 K t9 "zip"=some none) (z14:O7 K t9 "any"=some none) (z15:O7 K t9 "enumerate"=some none) (z16:O7 K t9 "sorted"=some none) (zV:O7 K t9 "ValueError"=some none)
  {t1:Tok} (m1:O7 K t9 "MOST_KINDS"=some (some (.int 4 t1))) {t2:Tok} (m2:O7 K t9 "MOST_BALLS"=some (some (.int 20 t2))) {t3:Tok} (m3:O7 K t9 "MOST_PUT_IN"=some (some (.int 5 t3))) {t4:Tok} (m4:O7 K t9 "MOST_TWO_DRAWS"=some (some (.int 4 t4))):
  ∃fd:D6,(∀(s:d7) (v:b9),tf s fd ⟨[v],[]⟩ [("_law_script",v)])/\(K.lookup T=none/\∃cc,jY K cc T=true)/\∀base:Heap,K.In base->base.Ns t9 mg->base.BuiltinsAt mg T->N0 l.prog w K mg base dI 11 fa fd ["_law_script"] (zd K T):=by
 obtain ⟨f,oc,od,kV,doc,pm,an,cc,ct,sl,a,lk,c',kp,hcd,hTn⟩:=hlaw
 have e:=hfa.symm.trans (ao X G a)
 cases e
 have F:=yC (st:=pH) lk c' kp
 have B:Bt mg:=⟨M7 X G z1,M7 X G z2,M7 X G z3,M7 X G z4,M7 X G z5,M7 X G z6,M7 X G z7,M7 X G z8,M7 X G z9,M7 X G z10,M7 X G z11,M7 X G z12,M7 X G z13⟩
 have B2:Bt2 mg:=⟨M7 X G z14⟩
 have B3:LK mg:=⟨M7 X G z15,M7 X G z16⟩
 have C:Ct mg:=⟨⟨_,ao X G m1⟩,⟨_,ao X G m2⟩,⟨_,ao X G m3⟩⟩
 have C2:CtW mg:=⟨⟨_,ao X G m4⟩⟩
 have hVE:=M7 X G zV
 refine ⟨gN "law" "law" (eD pH) (bf pH) (A1 pH) .none kV doc pm an (.ref cc) ct,fun s v=>.of_eq rfl,⟨hTn,cc,hcd⟩,fun base hKb _ hbm=>?_⟩
 have c_is_number:V4 l.prog w K mg base 0 "is_number" ["thing"] gX:=M5 X G h1 (fun f fd F=>F.binds (ps:=["thing"]) fun _ _ _ _ _ _ us hl=>match us,hl with | [_],_=>rfl) (fun f fd F=>ug F B)
 have c_is_whole:V4 l.prog w K mg base 1 "is_whole" ["thing","low","high"] fG:=M5 X G h2 (fun f fd F=>F.binds (ps:=["thing","low","high"]) fun _ _ _ _ _ _ us hl=>match us,hl with | [_,_,_],_=>rfl) (fun f fd F=>vT F c_is_number)
 have c_are_wholes:V4 l.prog w K mg base 2 "are_wholes" ["thing","low","high"] cY:=M5 X G h3 (fun f fd F=>F.binds (ps:=["thing","low","high"]) fun _ _ _ _ _ _ us hl=>match us,hl with | [_,_,_],_=>rfl) (fun f fd F=>qY F B c_is_whole)
 have c_need_number:fU l.prog w K mg base 2 "need_number" ["thing","low","high"] (cg c):=iu X G h4 (fun f fd F=>F.binds (ps:=["thing","low","high"]) fun _ _ _ _ _ _ us hl=>match us,hl with | [_,_,_],_=>rfl) (fun f fd F=>pS F R c_is_whole)
 have c_is_urn_up_to:V4 l.prog w K mg base 3 "is_urn_up_to" ["thing","most"] dQ:=M5 X G h5 (fun f fd F=>F.binds (ps:=["thing","most"]) fun _ _ _ _ _ _ us hl=>match us,hl with | [_,_],_=>rfl) (fun f fd F=>oh F B C c_are_wholes)
 have c_is_urn:V4 l.prog w K mg base 4 "is_urn" ["thing"] eO:=M5 X G h6 (fun f fd F=>F.binds (ps:=["thing"]) fun _ _ _ _ _ _ us hl=>match us,hl with | [_],_=>rfl) (fun f fd F=>AI F C c_is_urn_up_to)
 have c_is_rule:fU l.prog w K mg base 3 "is_rule" ["kinds","thing"] (kh c):=iu X G h7 (fun f fd F=>F.binds (ps:=["kinds","thing"]) fun _ _ _ _ _ _ us hl=>match us,hl with | [_,_],_=>rfl) (fun f fd F=>yc F B C c_are_wholes c_need_number)
 have c_need_urn:fU l.prog w K mg base 5 "need_urn" ["thing"] (iX c):=iu X G h8 (fun f fd F=>F.binds (ps:=["thing"]) fun _ _ _ _ _ _ us hl=>match us,hl with | [_],_=>rfl) (fun f fd F=>vR F R c_is_urn)
 have c_need_rule:fU l.prog w K mg base 4 "need_rule" ["kinds","thing"] (gW c):=iu X G h9 (fun f fd F=>F.binds (ps:=["kinds","thing"]) fun _ _ _ _ _ _ us hl=>match us,hl with | [_,_],_=>rfl) (fun f fd F=>uf F R c_is_rule)
 have c_greatest_divisor:V4 l.prog w K mg base 1 "greatest_divisor" ["one","other"] Cq:=M5 X G h10 (fun f fd F=>F.binds (ps:=["one","other"]) fun _ _ _ _ _ _ us hl=>match us,hl with | [_,_],_=>rfl) (fun f fd F=>KB F B)
 have c_fraction:V4 l.prog w K mg base 2 "fraction" ["top","bottom"] dE:=M5 X G h11 (fun f fd F=>F.binds (ps:=["top","bottom"]) fun _ _ _ _ _ _ us hl=>match us,hl with | [_,_],_=>rfl) (fun f fd F=>vU F c_greatest_divisor)
 have c_times:V4 l.prog w K mg base 3 "times" ["one","other"] dD:=M5 X G h12 (fun f fd F=>F.binds (ps:=["one","other"]) fun _ _ _ _ _ _ us hl=>match us,hl with | [_,_],_=>rfl) (fun f fd F=>Df F c_fraction)
 have c_plus:V4 l.prog w K mg base 3 "plus" ["one","other"] fF:=M5 X G h13 (fun f fd F=>F.binds (ps:=["one","other"]) fun _ _ _ _ _ _ us hl=>match us,hl with | [_,_],_=>rfl) (fun f fd F=>Fi F c_fraction)
 have c_put_in:V4 l.prog w K mg base 1 "put_in" ["urn","rule","kind"] mE:=M5 X G h14 (fun f fd F=>F.binds (ps:=["urn","rule","kind"]) fun _ _ _ _ _ _ us hl=>match us,hl with | [_,_,_],_=>rfl) (fun f fd F=>AG F B)
 have c_own_urn:V4 l.prog w K mg base 1 "own_urn" ["urn"] kg:=M5 X G h15 (fun f fd F=>F.binds (ps:=["urn"]) fun _ _ _ _ _ _ us hl=>match us,hl with | [_],_=>rfl) (fun f fd F=>ya F B)
 have c__law_cell_at:V4 l.prog w K mg base 1 "_law_cell_at" ["_law_script","_law_k"] (kl K):=M5 X G h16 (fun f fd F=>F.binds (ps:=["_law_script","_law_k"]) fun _ _ _ _ _ _ us hl=>match us,hl with | [_,_],_=>rfl) (fun f fd F=>yd F B)
 have c__law_state:V4 l.prog w K mg base 2 "_law_state" ["_law_script","_law_k"] (oZ K):=M5 X G h17 (fun f fd F=>F.binds (ps:=["_law_script","_law_k"]) fun _ _ _ _ _ _ us hl=>match us,hl with | [_,_],_=>rfl) (fun f fd F=>Dg F c__law_cell_at)
 have c__law_take:V4 l.prog w K mg base 1 "_law_take" ["_law_state_here","_law_many"] ba:=M5 X G h18 (fun f fd F=>F.binds (ps:=["_law_state_here","_law_many"]) fun _ _ _ _ _ _ us hl=>match us,hl with | [_,_],_=>rfl) (fun f fd F=>Fh F )
 have c__law_refused:V4 l.prog w K mg base 10 "_law_refused" ["_law_call"] (gU l.prog w K mg base 9 c):=M5 X G h19 (fun f fd F=>F.binds (ps:=["_law_call"]) fun _ _ _ _ _ _ us hl=>match us,hl with | [_],_=>rfl) (fun f fd F=>xZ F B R hVE)
 have c__law_urn_of:V4 l.prog w K mg base 2 "_law_urn_of" ["_law_state_here","_law_kinds"] tE:=M5 X G h20 (fun f fd F=>F.binds (ps:=["_law_state_here","_law_kinds"]) fun _ _ _ _ _ _ us hl=>match us,hl with | [_,_],_=>rfl) (fun f fd F=>Fj F B B2 c__law_take)
 have c__law_rule:V4 l.prog w K mg base 2 "_law_rule" ["_law_state_here","_law_kinds"] pe:=M5 X G h21 (fun f fd F=>F.binds (ps:=["_law_state_here","_law_kinds"]) fun _ _ _ _ _ _ us hl=>match us,hl with | [_,_],_=>rfl) (fun f fd F=>Dk F B c__law_take)
 have c__law_whole:V4 l.prog w K mg base 1 "_law_whole" ["_law_thing"] eM:=M5 X G h22 (fun f fd F=>F.binds (ps:=["_law_thing"]) fun _ _ _ _ _ _ us hl=>match us,hl with | [_],_=>rfl) (fun f fd F=>Dd F B)
 have c__law_is_urn:V4 l.prog w K mg base 2 "_law_is_urn" ["_law_thing"] eO:=M5 X G h23 (fun f fd F=>F.binds (ps:=["_law_thing"]) fun _ _ _ _ _ _ us hl=>match us,hl with | [_],_=>rfl) (fun f fd F=>yb F B B2 c__law_whole)
 have c__law_is_rule:V4 l.prog w K mg base 2 "_law_is_rule" ["_law_kinds","_law_thing"] iY:=M5 X G h24 (fun f fd F=>F.binds (ps:=["_law_kinds","_law_thing"]) fun _ _ _ _ _ _ us hl=>match us,hl with | [_,_],_=>rfl) (fun f fd F=>vS F B c__law_whole)
 have c__law_bent_urn:V4 l.prog w K mg base 2 "_law_bent_urn" ["_law_state_here","_law_urn"] Cs:=M5 X G h25 (fun f fd F=>F.binds (ps:=["_law_state_here","_law_urn"]) fun _ _ _ _ _ _ us hl=>match us,hl with | [_,_],_=>rfl) (fun f fd F=>KF F B c__law_take)
 have c__law_bent_rule:V4 l.prog w K mg base 2 "_law_bent_rule" ["_law_state_here","_law_rule_here"] Cu:=M5 X G h26 (fun f fd F=>F.binds (ps:=["_law_state_here","_law_rule_here"]) fun _ _ _ _ _ _ us hl=>match us,hl with | [_,_],_=>rfl) (fun f fd F=>KG F B c__law_take)
 have c__law_odd:V4 l.prog w K mg base 2 "_law_odd" ["_law_state_here"] xB:=M5 X G h27 (fun f fd F=>F.binds (ps:=["_law_state_here"]) fun _ _ _ _ _ _ us hl=>match us,hl with | [_],_=>rfl) (fun f fd F=>HW F c__law_take)
 have c__law_number:V4 l.prog w K mg base 2 "_law_number" ["_law_state_here","_law_most"] mF:=M5 X G h28 (fun f fd F=>F.binds (ps:=["_law_state_here","_law_most"]) fun _ _ _ _ _ _ us hl=>match us,hl with | [_,_],_=>rfl) (fun f fd F=>AH F c__law_take)
 have c__law_fraction:V4 l.prog w K mg base 1 "_law_fraction" ["_law_top","_law_bottom"] mG:=M5 X G h29 (fun f fd F=>F.binds (ps:=["_law_top","_law_bottom"]) fun _ _ _ _ _ _ us hl=>match us,hl with | [_,_],_=>rfl) (fun f fd F=>Ib F B)
 have c__law_plus:V4 l.prog w K mg base 2 "_law_plus" ["_law_one","_law_other"] fF:=M5 X G h30 (fun f fd F=>F.binds (ps:=["_law_one","_law_other"]) fun _ _ _ _ _ _ us hl=>match us,hl with | [_,_],_=>rfl) (fun f fd F=>Dl F c__law_fraction)
 have c__law_by:V4 l.prog w K mg base 2 "_law_by" ["_law_one","_law_other"] dD:=M5 X G h31 (fun f fd F=>F.binds (ps:=["_law_one","_law_other"]) fun _ _ _ _ _ _ us hl=>match us,hl with | [_,_],_=>rfl) (fun f fd F=>KD F c__law_fraction)
 have c_need_two:fU l.prog w K mg base 6 "need_two" ["one","other","rule","draws"] (Co c):=iu X G h32 (fun f fd F=>F.binds (ps:=["one","other","rule","draws"]) fun _ _ _ _ _ _ us hl=>match us,hl with | [_,_,_,_],_=>rfl) (fun f fd F=>Kz F B C2 R c_need_urn c_need_rule c_need_number)
 have c_share:V4 l.prog w K mg base 3 "share" ["urn","kind"] lp:=M5 X G h33 (fun f fd F=>F.binds (ps:=["urn","kind"]) fun _ _ _ _ _ _ us hl=>match us,hl with | [_,_],_=>rfl) (fun f fd F=>Di F B c_fraction)
 have c_next_chances_of_two:V4 l.prog w K mg base 4 "next_chances_of_two" ["chances","rule"] (xC l.prog w):=M5 X G h34 (fun f fd F=>F.binds (ps:=["chances","rule"]) fun _ _ _ _ _ _ us hl=>match us,hl with | [_,_],_=>rfl) (fun f fd F=>HX F B B3 c_put_in c_times c_share c_plus)
 have c_two_stands:fU l.prog w K mg base 7 "two_stands" ["one","other","rule","draws"] (Cj c):=iu X G h35 (fun f fd F=>F.binds (ps:=["one","other","rule","draws"]) fun _ _ _ _ _ _ us hl=>match us,hl with | [_,_,_,_],_=>rfl) (fun f fd F=>Kw F B B3 c_need_two c_own_urn c_next_chances_of_two)
 have c_total:V4 l.prog w K mg base 4 "total" ["fractions"] oY:=M5 X G h36 (fun f fd F=>F.binds (ps:=["fractions"]) fun _ _ _ _ _ _ us hl=>match us,hl with | [_],_=>rfl) (fun f fd F=>De F c_plus)
 have c_mean_share:V4 l.prog w K mg base 5 "mean_share" ["behind","kind"] Cp:=M5 X G h37 (fun f fd F=>F.binds (ps:=["behind","kind"]) fun _ _ _ _ _ _ us hl=>match us,hl with | [_,_],_=>rfl) (fun f fd F=>KA F c_total c_times c_share)
 have c_two_shares:fU l.prog w K mg base 8 "two_shares" ["one","other","rule","draws"] (vn c):=iu X G h38 (fun f fd F=>F.binds (ps:=["one","other","rule","draws"]) fun _ _ _ _ _ _ us hl=>match us,hl with | [_,_,_,_],_=>rfl) (fun f fd F=>Kx F B c_two_stands c_mean_share)
 have c__law_pairs:V4 l.prog w K mg base 3 "_law_pairs" ["_law_one","_law_other","_law_rule_here","_law_draws"] Cm:=M5 X G h39 (fun f fd F=>F.binds (ps:=["_law_one","_law_other","_law_rule_here","_law_draws"]) fun _ _ _ _ _ _ us hl=>match us,hl with | [_,_,_,_],_=>rfl) (fun f fd F=>Ky F B B3 c__law_by c__law_fraction c__law_plus)
 have c__law_due:V4 l.prog w K mg base 4 "_law_due" ["_law_one","_law_other","_law_rule_here","_law_draws"] xD:=M5 X G h40 (fun f fd F=>F.binds (ps:=["_law_one","_law_other","_law_rule_here","_law_draws"]) fun _ _ _ _ _ _ us hl=>match us,hl with | [_,_,_,_],_=>rfl) (fun f fd F=>Ia F B c__law_pairs c__law_plus c__law_by c__law_fraction)
 have c__law_same:V4 l.prog w K mg base 1 "_law_same" ["_law_found","_law_due_here"] (lj 0):=M5 X G h41 (fun f fd F=>F.binds (ps:=["_law_found","_law_due_here"]) fun _ _ _ _ _ _ us hl=>match us,hl with | [_,_],_=>rfl) (fun f fd F=>HV F B)
 have c__law_same_0:=c__law_same
 have c__law_same:V4 l.prog w K mg base 2 "_law_same" ["_law_found","_law_due_here"] (lj 1):=M5 X G h42 (fun f fd F=>F.binds (ps:=["_law_found","_law_due_here"]) fun _ _ _ _ _ _ us hl=>match us,hl with | [_,_],_=>rfl) (fun f fd F=>Dh F B c__law_same)
 have c__law_same_1:=c__law_same
 have c__law_same:V4 l.prog w K mg base 3 "_law_same" ["_law_found","_law_due_here"] (lj 2):=M5 X G h43 (fun f fd F=>F.binds (ps:=["_law_found","_law_due_here"]) fun _ _ _ _ _ _ us hl=>match us,hl with | [_,_],_=>rfl) (fun f fd F=>Dh F B c__law_same)
 have c__law_same_2:=c__law_same
 have c__law_same:V4 l.prog w K mg base 4 "_law_same" ["_law_found","_law_due_here"] (lj 3):=M5 X G h44 (fun f fd F=>F.binds (ps:=["_law_found","_law_due_here"]) fun _ _ _ _ _ _ us hl=>match us,hl with | [_,_],_=>rfl) (fun f fd F=>Dh F B c__law_same)
 have c__law_word:V4 l.prog w K mg base 3 "_law_word" ["_law_one","_law_other","_law_rule_here","_law_draws","_law_most"] Ci:=M5 X G h45 (fun f fd F=>F.binds (ps:=["_law_one","_law_other","_law_rule_here","_law_draws","_law_most"]) fun _ _ _ _ _ _ us hl=>match us,hl with | [_,_,_,_,_],_=>rfl) (fun f fd F=>Ku F B c__law_is_urn c__law_is_rule c__law_whole)
 have c__law_fours:V4 l.prog w K mg base 3 "_law_fours" ["_law_state_here","_law_one","_law_other","_law_rule_here","_law_draws"] Cr:=M5 X G h46 (fun f fd F=>F.binds (ps:=["_law_state_here","_law_one","_law_other","_law_rule_here","_law_draws"]) fun _ _ _ _ _ _ us hl=>match us,hl with | [_,_,_,_,_],_=>rfl) (fun f fd F=>KC F B c__law_bent_urn c__law_odd c__law_take c__law_bent_rule c__law_number)
 exact HY F B ⟨(c__law_state.up (by decide)),(c__law_take.up (by decide)),(c__law_urn_of.up (by decide)),(c__law_rule.up (by decide)),(c__law_due.up (by decide)),(c__law_same.up (by decide)),(c__law_fours.up (by decide)),(c__law_word.up (by decide)),(c_two_shares.up (by decide)),(c_two_shares.up (by decide)),c__law_refused⟩ ⟨cc,rfl,hcd⟩ hKb hbm
theorem walk {l:Jw}{q:j6}{loose:List Str}{XP:(Str->Option b9)->Heap->Prop}{YP:r9->Heap->Prop}{d:DefRec}{K:Params->m9}(hn:l.most=some 63) (hdf:d.params.defaults=[])
  (hY:∀(w:r9) (h:Heap),YP w h->(K w.params).In h) (hT:∀(w:r9) (h:Heap),YP w h->∀t∈[T],h.get? t=some (Ez #[]))
  (F:∀(w:r9) (mg:Str->Option b9) (fa:Addr) (h:Heap),(K w.params).In h->h.Ns t9 mg->mg d.name=some (.ref fa) ->
   ∃fd:D6,(∀(s:d7) (u:b9),tf s fd ⟨[u],[]⟩ [("_law_script",u)])/\((K w.params).lookup T=none/\∃c,jY (K w.params) c T=true)/\∀base:Heap,(K w.params).In base->base.Ns t9 mg->base.BuiltinsAt mg T->N0 l.prog w (K w.params) mg base dI 11 fa fd ["_law_script"] (zd (K w.params) T)):
  W.WalkO q loose XP YP l.row.toRowW d [] (fun f vs=>BG f vs):=
 L2.Ca (n:=63) (k:=11) (x:="_law_script") (ts:=[T]) (sp:=fun w=>zd (K w.params) T) hn (by decide) hdf ⟨rfl,by decide,by decide⟩ hY hT
  (fun w mg fa h kx ns hm=>by
   obtain ⟨fd,b1,b2,b3⟩:=F w mg fa h kx ns hm
   exact ⟨fd,b1,fun t ht=>by rw[List.mem_singleton.mp ht];exact b2,fun base k1 k2 k3=>b3 base k1 k2 (k3 T (List.mem_singleton.mpr rfl))⟩)
  (fun _ _ a ns hl hO hS=>⟨a,ns,rfl,hS,hl,⟨#[],hO.2 T (List.mem_singleton.mpr rfl),trivial,fun pos v e=>by cases e⟩,fun _=>rfl⟩)
end G
namespace PySem.Challenge.cw_growurns_k82_mean_shares_of_two_urns_holds
def tw8790345921778487716:=()
def tw2926081167416852672:=()
def tw8311617366548191940:=()
def tw1295935701319112761:=()
def tw7887714224753222400:=()
def tw407600867424589207:=()
def tw1867106885489891726:=()
def tw12681661963193148086:=()
def tw758204639415974316:=()
def tw16074698098966190486:=()
def tw2760462684240404893:=()
def tw10474189173633030549:=()
def tw11982638340187031620:=()
def tw1233432986748401606:=()
def tw10564073355691535455:=()
def tw2541684676282981488:=()
def tw7229766105705544755:=()
def tw15530139507807130787:=()
def tw17908746791679491900:=()
def tw1532274210877837996:=()
def tw4625542919102587687:=()
def tw9262080321105009962:=()
def tw1315292053914290729:=()
def tw16345256011111968104:=()
def tw3489966806484568246:=()
def tw12758421087867468322:=()
def tw16683403703955905184:=()
def tw5363915889665639280:=()
def tw17618509876554230194:=()
def tw11096465460954108563:=()
def tw8287540206751228562:=()
def tw6766578420872099423:=()
def tw6805631608277587966:=()
def tw10756257785499909639:=()
def tw4412872582663329803:=()
def tw1564007012931389042:=()
def tw1647693429251076090:=()
def tw1705590534702856843:=()
def tw5515230686694318846:=()
def tw11298123708250454643:=()
def tw4516596821997622877:=()
def tw16979525246141764380:=()
def tw12735769749802919587:=()
def tw2501448630091244169:=()
def tw4512723030184875337:=()
def tw2016393542786498873:=()
def tw15927705796562337590:=()
def tw18275327594696615438:=()
def tw7575082425344403826:=()
def tw12081422873296756445:=()
def tw7669142347061733174:=()
def tw7648376586253833758:=()
def tw10232969312403625325:=()
def tw13249936144642502636:=()
def tw7889460146151679806:=()
def tw11048120299668722396:=()
def tw10994397801238662926:=()
def tw6204035280407493192:=()
def tw10193770769485681654:=()
def tw4883156560506310609:=()
def tw11736823544635730194:=()
def tw16971439601834414370:=()
def tw17107169046076080871:=()
def tw11792471882911815924:=()
def tw15320755950128411548:=()
def tw5751345634035092992:=()
def tw134658949941483209:=()
def tw5128821791669852405:=()
def tw6268614839307000706:=()
def tw655892742425770106:=()
def tw16192668880183463676:=()
def tw17112222515751467889:=()
def tw15773786669645935090:=()
def tw1462625348445237308:=()
def tw16720585002497496091:=()
def tw1208348195784461167:=()
def tw11252001673693584671:=()
def tw9935542578588646620:=()
def tw4334426441778929242:=()
def tw12305642600983987635:=()
def tw13275960702480070685:=()
def tw16445623268269346705:=()
def tw7305086605779691076:=()
def tw12191845056166988315:=()
def tw16578999654235042244:=()
def tw15113767744282659974:=()
def tw2702639817599964397:=()
def tw848183893858073206:=()
def tw4345403195635410991:=()
def tw4600067597840619726:=()
def tw11407500247663250983:=()
def tw820397505985180498:=()
def tw5321400067913509971:=()
def tw2865265313938052190:=()
def tw6790210524158207203:=()
def tw16839594960589609465:=()
def tw13380949578300642724:=()
def tw9967713440389800074:=()
def tw12682984760953326540:=()
def tw3809308966478621973:=()
def tw3944116375919811929:=()
def tw6982732984914170279:=()
def tw7133820984718545054:=()
def tw6554879205864797044:=()
def tw9040905308033921678:=()
def tw8561410302159506638:=()
def tw16280784476973750816:=()
def tw7625162419113311004:=()
def tw12995868552960846175:=()
def tw7952896106135974451:=()
def tw13545366601844332411:=()
def tw1522028705780125504:=()
def tw16083804279219489466:=()
def tw12284049099883024831:=()
def tw1782768041130620598:=()
def tw2360381520384150681:=()
def tw17073528963071715347:=()
def tw1970141144179546019:=()
def tw2655084298977996811:=()
def tw15387040197474865147:=()
def tw14657891470601355056:=()
def tw2280050473646283316:=()
def tw15903280292534086563:=()
def tw5388434145855846523:=()
def tw18392297004096037023:=()
def tw8579610146809448637:=()
def tw2362258685065575646:=()
def tw4792475834657476444:=()
def tw15283535331727269390:=()
def tw2061179107370240602:=()
def tw16082915722397261155:=()
def tw15223378653285840424:=()
def tw12580187372086839022:=()
def tw10948106362036590181:=()
def tw10091826331670476825:=()
def tw5992474402757847920:=()
def tw5992940308048865255:=()
def tw15313552261453190530:=()
def tw16771131490988347260:=()
def tw14437881478632094810:=()
def tw6216973384908194760:=()
def tw9118121384009173550:=()
def tw6297536537223187151:=()
def tw3903210809586365791:=()
def tw12111371366760823552:=()
def tw14189456207468734172:=()
def tw6128572380043994186:=()
def tw5037907956160307829:=()
def tw10540234174957114732:=()
def tw9099059021630964516:=()
def tw8350890373478511705:=()
def tw17105333001132038284:=()
def tw14341830972195523256:=()
def tw9967237835151238435:=()
def tw725763131415039852:=()
def tw3992429575974362722:=()
def tw9732384467703361812:=()
def tw13798044567724445588:=()
def tw11583241993100504331:=()
def tw14374158526336858993:=()
def tw4795966376276793893:=()
def tw6433815865400333706:=()
def tw6598491669093504143:=()
def tw13099668387715534225:=()
def tw17481660691389926831:=()
def tw7105334860357743448:=()
def tw14707782944123450261:=()
def tw51230815818527159:=()
def tw924268035757308500:=()
def tw3885953352225624312:=()
def tw6814807675699372220:=()
def tw11983831008900830698:=()
def tw5123397418532843178:=()
def tw15358348140261373898:=()
def tw13342520744500893362:=()
end PySem.Challenge.cw_growurns_k82_mean_shares_of_two_urns_holds
set_option Elab.async true
open PySem PySem.W PyProof.Rows
set_option maxRecDepth 100000 in
set_option maxHeartbeats 0 in
theorem PySem.Challenge.cw_growurns_k82_mean_shares_of_two_urns_holds : PySem.Challenge.rw_growurns_k82_mean_shares_of_two_urns.Holds := by
 w_on;o_law;k_head;(case hw=>w_witness2)
 k_fill
 refine G.walk (l:=PySem.Challenge.rw_growurns_k82_mean_shares_of_two_urns) rfl rfl (fun w h Y=>W.km_in_of Y) (fun w h Y=>W.km_tabs_of Y) ?F
 case F =>
  intro w mg fa h KX NS hmg
  refine' G.Iy KX NS hmg (G.Fx KX NS ?e0 ?e1 ?e2 ?e3 ?e4 ?e5 ?e6 ?e7 ?e8 ?e9 ?eb ?eA ?eB ?eC) (G.G9 ?a1 ?l1 ?c1 ?k1) (G.G9 ?a2 ?l2 ?c2 ?k2) (G.G9 ?a3 ?l3 ?c3 ?k3) (G.G9 ?a4 ?l4 ?c4 ?k4) (G.G9 ?a5 ?l5 ?c5 ?k5) (G.G9 ?a6 ?l6 ?c6 ?k6) (G.G9 ?a7 ?l7 ?c7 ?k7) (G.G9 ?a8 ?l8 ?c8 ?k8) (G.G9 ?a9 ?l9 ?c9 ?k9) (G.G9 ?a10 ?l10 ?c10 ?k10) (G.G9 ?a11 ?l11 ?c11 ?k11) (G.G9 ?a12 ?l12 ?c12 ?k12) (G.G9 ?a13 ?l13 ?c13 ?k13) (G.G9 ?a14 ?l14 ?c14 ?k14) (G.G9 ?a15 ?l15 ?c15 ?k15) (G.G9 ?a16 ?l16 ?c16 ?k16) (G.G9 ?a17 ?l17 ?c17 ?k17) (G.G9 ?a18 ?l18 ?c18 ?k18) (G.G9 ?a19 ?l19 ?c19 ?k19) (G.G9 ?a20 ?l20 ?c20 ?k20) (G.G9 ?a21 ?l21 ?c21 ?k21) (G.G9 ?a22 ?l22 ?c22 ?k22) (G.G9 ?a23 ?l23 ?c23 ?k23) (G.G9 ?a24 ?l24 ?c24 ?k24) (G.G9 ?a25 ?l25 ?c25 ?k25) (G.G9 ?a26 ?l26 ?c26 ?k26) (G.G9 ?a27 ?l27 ?c27 ?k27) (G.G9 ?a28 ?l28 ?c28 ?k28) (G.G9 ?a29 ?l29 ?c29 ?k29) (G.G9 ?a30 ?l30 ?c30 ?k30) (G.G9 ?a31 ?l31 ?c31 ?k31) (G.G9 ?a32 ?l32 ?c32 ?k32) (G.G9 ?a33 ?l33 ?c33 ?k33) (G.G9 ?a34 ?l34 ?c34 ?k34) (G.G9 ?a35 ?l35 ?c35 ?k35) (G.G9 ?a36 ?l36 ?c36 ?k36) (G.G9 ?a37 ?l37 ?c37 ?k37) (G.G9 ?a38 ?l38 ?c38 ?k38) (G.G9 ?a39 ?l39 ?c39 ?k39) (G.G9 ?a40 ?l40 ?c40 ?k40) (G.G9 ?a41 ?l41 ?c41 ?k41) (G.G9 ?a42 ?l42 ?c42 ?k42) (G.G9 ?a43 ?l43 ?c43 ?k43) (G.G9 ?a44 ?l44 ?c44 ?k44) (G.G9 ?a45 ?l45 ?c45 ?k45) (G.G9 ?a46 ?l46 ?c46 ?k46) (G.Fu ?la ?ll ?lc ?lk ?lt ?ln) ?z1 ?z2 ?z3 ?z4 ?z5 ?z6 ?z7 ?z8 ?z9 ?z10 ?z11 ?z12 ?z13 ?z14 ?z15 ?z16 ?zV ?m1 ?m2 ?m3 ?m4
  (case e0=>k_is);(case e1=>k_is);(case e2=>k_is);(case e3=>k_is);(case e4=>k_is);(case e5=>k_is);(case e6=>k_is);(case e7=>k_is);(case e8=>k_is);(case e9=>k_is);(case eb=>k_is)
  (case eA=>kernel_rfl)
  (case eB=>kernel_rfl)
  (case eC=>kernel_rfl)
  (case a1=>k_is);(case l1=>k_is);(case c1=>k_is);(case k1=>k_is)
  (case a2=>k_is);(case l2=>k_is);(case c2=>k_is);(case k2=>k_is)
  (case a3=>k_is);(case l3=>k_is);(case c3=>k_is);(case k3=>k_is)
  (case a4=>k_is);(case l4=>k_is);(case c4=>k_is);(case k4=>k_is)
  (case a5=>k_is);(case l5=>k_is);(case c5=>k_is);(case k5=>k_is)
  (case a6=>k_is);(case l6=>k_is);(case c6=>k_is);(case k6=>k_is)
  (case a7=>k_is);(case l7=>k_is);(case c7=>k_is);(case k7=>k_is)
  (case a8=>k_is);(case l8=>k_is);(case c8=>k_is);(case k8=>k_is)
  (case a9=>k_is);(case l9=>k_is);(case c9=>k_is);(case k9=>k_is)
  (case a10=>k_is);(case l10=>k_is);(case c10=>k_is);(case k10=>k_is)
  (case a11=>k_is);(case l11=>k_is);(case c11=>k_is);(case k11=>k_is)
  (case a12=>k_is);(case l12=>k_is);(case c12=>k_is);(case k12=>k_is)
  (case a13=>k_is);(case l13=>k_is);(case c13=>k_is);(case k13=>k_is)
  (case a14=>k_is);(case l14=>k_is);(case c14=>k_is);(case k14=>k_is)
  (case a15=>k_is);(case l15=>k_is);(case c15=>k_is);(case k15=>k_is)
  (case a16=>k_is);(case l16=>k_is);(case c16=>k_is);(case k16=>k_is)
  (case a17=>k_is);(case l17=>k_is);(case c17=>k_is);(case k17=>k_is)
  (case a18=>k_is);(case l18=>k_is);(case c18=>k_is);(case k18=>k_is)
  (case a19=>k_is);(case l19=>k_is);(case c19=>k_is);(case k19=>k_is)
  (case a20=>k_is);(case l20=>k_is);(case c20=>k_is);(case k20=>k_is)
  (case a21=>k_is);(case l21=>k_is);(case c21=>k_is);(case k21=>k_is)
  (case a22=>k_is);(case l22=>k_is);(case c22=>k_is);(case k22=>k_is)
  (case a23=>k_is);(case l23=>k_is);(case c23=>k_is);(case k23=>k_is)
  (case a24=>k_is);(case l24=>k_is);(case c24=>k_is);(case k24=>k_is)
  (case a25=>k_is);(case l25=>k_is);(case c25=>k_is);(case k25=>k_is)
  (case a26=>k_is);(case l26=>k_is);(case c26=>k_is);(case k26=>k_is)
  (case a27=>k_is);(case l27=>k_is);(case c27=>k_is);(case k27=>k_is)
  (case a28=>k_is);(case l28=>k_is);(case c28=>k_is);(case k28=>k_is)
  (case a29=>k_is);(case l29=>k_is);(case c29=>k_is);(case k29=>k_is)
  (case a30=>k_is);(case l30=>k_is);(case c30=>k_is);(case k30=>k_is)
  (case a31=>k_is);(case l31=>k_is);(case c31=>k_is);(case k31=>k_is)
  (case a32=>k_is);(case l32=>k_is);(case c32=>k_is);(case k32=>k_is)
  (case a33=>k_is);(case l33=>k_is);(case c33=>k_is);(case k33=>k_is)
  (case a34=>k_is);(case l34=>k_is);(case c34=>k_is);(case k34=>k_is)
  (case a35=>k_is);(case l35=>k_is);(case c35=>k_is);(case k35=>k_is)
  (case a36=>k_is);(case l36=>k_is);(case c36=>k_is);(case k36=>k_is)
  (case a37=>k_is);(case l37=>k_is);(case c37=>k_is);(case k37=>k_is)
  (case a38=>k_is);(case l38=>k_is);(case c38=>k_is);(case k38=>k_is)
  (case a39=>k_is);(case l39=>k_is);(case c39=>k_is);(case k39=>k_is)
  (case a40=>k_is);(case l40=>k_is);(case c40=>k_is);(case k40=>k_is)
  (case a41=>k_is);(case l41=>k_is);(case c41=>k_is);(case k41=>k_is)
  (case a42=>k_is);(case l42=>k_is);(case c42=>k_is);(case k42=>k_is)
  (case a43=>k_is);(case l43=>k_is);(case c43=>k_is);(case k43=>k_is)
  (case a44=>k_is);(case l44=>k_is);(case c44=>k_is);(case k44=>k_is)
  (case a45=>k_is);(case l45=>k_is);(case c45=>k_is);(case k45=>k_is)
  (case a46=>k_is);(case l46=>k_is);(case c46=>k_is);(case k46=>k_is)
  (case la=>k_is);(case ll=>k_is);(case lc=>k_is);(case lk=>k_is);(case lt=>kernel_rfl);(case ln=>kernel_rfl)
  (case z1=>k_is);(case z2=>k_is);(case z3=>k_is);(case z4=>k_is);(case z5=>k_is);(case z6=>k_is);(case z7=>k_is);(case z8=>k_is);(case z9=>k_is);(case z10=>k_is);(case z11=>k_is);(case z12=>k_is);(case z13=>k_is);(case z14=>k_is);(case z15=>k_is);(case z16=>k_is);(case zV=>k_is)
  (case m1=>k_is);(case m2=>k_is);(case m3=>k_is);(case m4=>k_is)
#print axioms PySem.Challenge.cw_growurns_k82_mean_shares_of_two_urns_holds
