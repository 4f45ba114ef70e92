import PyProof.Rows.All
import Wide.All
import OpenK.AllK
import Wide.FinOn
import Lean
import PyProof.EqAt
import PyProof.EqKinds
import PyProof.TupleCall
import KE.KIsAll
import KE.KLam
import KE.KTryDeep
import PyProof.ExcAttrAll.ValueError
import KE.KSortTup
import KE.KItemsList
import PyProof.Rows.SortRuns
import KE.KDictList
import PyProof.Rows.SetFrom
import PyProof.FactsAll.set
import PyProof.Rows.SortStr
import PyProof.StrWalks
import PyProof.FString5
import PyProof.PureStr
import PyProof.CollectIter
import PyProof.StrOps2
import PySem.Challenge.RW_growurns_k42_draws_in_whatever_order
open PySem renaming wpAny_bind→b8,Value→d6,Shared→d7,sizeLine→i7,wpAny_pure→i8,Program→j9,wpAny→r0,World→t9,mainGlobals→u5,Around→v7,starEach→w6,model→y6,PyData→A2,boot_len→A5,FuncData→C4,wpAny_newObj_type→C9,wpAny_field→D3,wpAny_mono→F0,wpAny_callSpecial?_slot→G2,wpAny_setField_rec→L7,wpAny_call_entry→M7,Scope→N3,cellsFrom→O0,wpAny_holding→O5,wpAny_truthy_bool→O6,compareOp→P9,binaryOp→R1,sizeLine_eq→S6,backTo→S9,bootBuiltins→V4,sysModules→W0,call_meets→W2,wpAny_typeNameOfWhole_itemiter→X4,NameKind→X8,wpAny_Call_Name_kw→Y9,wpAny_passesOwn→Z8,mem_of_lookup→aq,wpAny_seqItems→aC,wpAny_typeNameOf_itemiter→aR,wpAny_binaryOp_repeat_ref→aU,wpAny_attempt→bt,behindInMarks→bw,wpAny_execs_nil→bG,Builtin→bI,typeIs_int→bP,rawInt→bQ,IsItemIter→bT,Arguments→cq,wpAny_setField→cJ,tupleKind→dE,assignEach→dG,DictEntry→dJ,getItem→dN,codeAmong→fQ,TriplesOk→fS,wpAny_rule→gr,tupleKind_room_in1→gv,Keyword→iz,wpAny_standAt→iQ,attributeBase→iT,pushCells→ji,cLine→jk,wpAny_isOneOf_itemiter→jH,pyNext→jI,codeAny_mono→jJ,codeAny→jK,builtinsNs→jL,letOwnedTupleGo→kL,firstArgMember→mf,IsPart→mi,swapsWith→mz,wpAny_onRaise→oK,strLen_append→oO,Model→oP,wpAny_pyIter_tuple→oS,wpAny_call→oU,wpAny_Constant_int→oV,pyIter→oW,assign→oY,IsPair→pe,wpAny_typeOf→qM,wpAny_sequenceKey→qN,wpAny_pyIter_list→qO,wpAny_dictEntries→qP,valueAt→qR,relabel→qS,foldedSetIterable→qT,callerA→qV,BindsTo→rm,wpAny_execs_cons→tq,setFlight→tu,noFill_tuple_add→tw,Result→tD,subscripted→vk,keywordEach→vm,wpAny_loadPart'→vJ,wpAny_dictEpoch→vK,pushCells_keeps→vL,wpAny_newTuple→yJ,wpAny_newFunctionEnv_cells→yK,wpAny_bindName→yL,newFunctionEnv→yM,bindName→yO,bindArgs→yP,atKey→yQ,Paired→yT,IsZip→yV,wpAny_comprehension_free→Ae,swappedStores→Ag,seq_tuple_add→Ah,evalPart_none→Ai,assignInOrder→Aj,call→Ak,IsItemIterOut→Ax,noteFrame→Dd,field→De,bindL→Dg,bindC→Dh,Meets→Dl,CmpOp→Dv,wpAny_Call_method_late→DE,seqIndex_neg→DG,leaving→DJ,concat_meets→DK,call_meetsIn→DL,seqSlot_of→DQ,wpAny_isTrue_Compare1→Ff,codeAny_call_function→Fg,wpAny_updateSeq_pair→FR,wpAny_of_eq→FS,wpAny_letGo→FT,unbindBehindTheSuite→FU,seqIndex_of→FV,backToKw→FW,GenState→Gb,wpAny_Name→IP,typeLookup→IQ,isTrue→IR,Within→IY,wpAny_pyIter_slot→Ky,wpAny_assign_Name→Kz,holding→KA,wpAny_pyIter_zip→KO,wpAny_isInstance→KQ,wpAny_Dict_empty→KR,onTheHeap→KU,joinParts→KW
open List renaming length_map→b9,getElem?_eq_getElem→d9,mem_cons_of_mem→f7,mem_cons_self→i4,getD_eq_getElem?_getD→j6,replicate→m6,size_toArray→n6,getElem?_map→n8,map_append→n9,length_cons→r6,length_append→t8,mem_append_right→y7,length_take→A4,mem_of_getElem?→B0,map_cons→B9,not_mem_nil→C0,mem_cons→C1,take_add_one→C2,range→D4,take_length→D8,replicate_succ→E4,lookup_cons→E5,getElem_mem→F7,all_map→G5,cons_append→H0,length_reverse→J6,length_replicate→J7,getElem?_set_ne→K4,sum_cons→K5,getElem?_range→M6,getElem?_eq_none→M8,length_range→Q7,take_of_length_le→R5,length_set→T6,length_nil→T7,append_nil→T8,mem_append_left→T9,map_replicate→X1,map_map→X2,getElem?_set_self→X3,mem_of_mem_take→ae,mem_or_eq_of_mem_set→av,eq_of_mem_replicate→aF,nodup_cons→aH,find?_cons→aI,pairwise_map→bH,map_reverse→cF,length_drop→cG,nil_append→dz,forIn_cons→dA,filterMap_cons→dI,toArray→dQ,forIn_nil→eE,drop_zero→eF,ext_getElem?→fi,getElem?_replicate→gI,range_succ→iW,of_mem_zip→iX,getElem?_zipWith→jd,length_zipWith→kM,any_cons→kP,reverse_cons→mB,map_set→mC,map_nil→mD,getElem?_set→mE,flatMap_cons→mF,countP_cons→oQ,count_cons→pO,drop_eq_getElem_cons→tG,map_take→vw,map_drop→vy,all_cons→vz,pairwise_singleton→vN,zipWith→xm,getElem?_reverse→yU,mem_of_mem_drop→Aa,length→Ab,map_congr_left→Ar,length_flatMap→Au,getElem_of_mem→Av,flatMap_append→Aw,pairwise_cons→Dm,map_inj_right→Dn,getElem?_take→Dp,all_replicate→Dq,getElem_take→DT,flatten_cons→DU,zipIdx_cons→Fj,filter_cons→Fk,ext_getElem→Fl,any_eq_true→Fm,all_eq_true→Fn,zipIdx_nil→Ga,map_id→Le
open PySem.Heap renaming get?_push_of_some→f9,lt_size→m7,get?_push_size→q9,size_push→G9,get?_update_other→K8,SameBut→R6,get?_update_self→Y7,get?_none_of_le→jD,ExtBut→Ac
open Nat renaming le_refl→i9,le_trans→m8,zero_le→u9,pow_le_pow_right→w5,ne_of_lt→w9,lt_of_lt_of_le→B4,dvd_trans→C5,gcd→D2,mul_le_mul→D5,ne_of_gt→G6,gcd_dvd_right→J8,mul_comm→L8,pos_of_ne_zero→N4,lt_irrefl→O2,lt_succ_of_lt→O3,mul_assoc→P6,pow_add→R9,gcd_dvd_left→W3,le_succ→X0,lt_of_le_of_lt→X7,mul_pos→af,zero_add→ar,lcm→aV,lt_succ_self→cK,mul_dvd_mul_left→cY,mul_dvd_mul→dH,mul_le_mul_left→dP,le_of_lt→dX,mul_one→fU,mul_add→fV,dvd_lcm_right→fW,dvd_gcd→fX,gcd_pos_of_pos_left→gQ,dvd_lcm_left→gR,dvd_refl→iV,succ_mul→mT,sub_zero→mU,sub_self→mV,pow_succ→mW,lcm_dvd→pN,gcd_mul_lcm→rg,sub_le→tF,pow_lt_pow_right→Am,one_pos→An,one_mul→Ao,one_dvd→Ap,not_succ_le_self→Aq,pow_le_pow_left→Dk,add_sub_cancel→DS,lt_succ_of_le→Fi,not_lt_of_le→FY,le_add_right→FZ,strongRecOn→IA,mul_ne_zero→IB,add_le_add→Jb,pow_succ'→KG,lt_or_ge→Lb,gcd_comm→Lc,add_comm→Ld
open PySem.W renaming Frag→m9,mg_none_of→G7,nsIn→M4,findIn→S7,mg_of→W6,kia_one→Z5,kitOne→aZ,keepIn→ba,fnOf→fg,codeIn→iU,codeHdIn→jm,specialIn→kO,subIn→lH,envX→mQ,cellsFrom_some→qY,clsIn→vo,kitCls→vM,takesIn→zX,kla_obj→zY,tabObj→DM,methodObj→DP,mroIn→Iv,excIn→Iw,Looks→Iy,kia_tup→IT,instObj→IU,findObj→IV,OpenLaw→IW,looks_findIn→KY,lookIn→KZ,InstAt→La
open PyProof.Rows renaming boot_isinstance→A1,boot_tuple→E7,Keyed→E9,slot_tuple_getitem→I0,wpS_bind→P5,envOfC→W1,SortKind→aD,wpS_pure→bq,callWith_type1→cm,seqObj→dF,IntsAre→fj,boot_list→fR,SortSt→gw,AllBare→iA,boot_int→jl,slicePart_none→me,entry_tuple_getitem→mP,subscriptTail→oM,assignInOrder_cons→oX,args_tuple_getitem→oZ,wpS_forRange→qL,failedOf→qU,boot_sum→qW,boot_all→qX,arrOf→vn,mirror→yN,Subscript_→yS,tupleItemsOf_→Af,boot_bool→Df,IsTup→Ds,wpS_get→DB,subscriptTail_builtinR→DF,minRun'→DH,getElem?_mirror_all→Iu,assignInOrder_nil→KB,pendingOf→KS
open Bool renaming false_ne_true→A3,and_eq_true→A6,false_and→F8,true_and→K6,eq_iff_iff→aJ,and_false→bJ,false_eq_true→lK,false_or→vB,and_true→vC,true_or→xo
open PySem.Builtin.Int renaming intBits→A9
open PySem.Value renaming ref→B1,none→D9,bool→W7,builtin→cD,int→mR,str→vp,isInt→yR,isStrOf→Iz,float→KF
open Or renaming inl→B5,inr→Z7
open Option.some renaming inj→D1
open PySem.Builtin.SmallTypes renaming nextOf→D7,ownedTupleIsFree→O8,ownedTupleHandOut→eG
open False renaming elim→E2
open PySem.Builtin.Slice renaming slicePlaces→F5,sliceAdjust→R4,sliceApplied→cy,sliceFields→lJ
open PySem.Builtin.Tuple renaming tupleExact→G3,tupleItemsOf→cx,tupleIsExact→kR
open PySem.PyData renaming int→G4,canLay0→U7,eqvAll→X5,canLayAll0→bj,depth→dw,eqv→gH,depthAll→gO
open PySem.PassesOwn renaming never→K1
open Ne renaming symm→M3
open Int renaming natAbs_natCast→P1,natAbs_mul→Q0,toNat_natCast→Q8,gcd→R8,emod_lt_of_pos→X9,natCast_mul→aW,emod_nonneg→aX,mul_nonneg→bU,mul_le_mul_of_nonneg_left→cZ,le_refl→pP,fdiv_eq_ediv_of_nonneg→tH,gcd_zero_right→DV,natAbs_add_le→Fo,ediv_nonneg→IC,add_nonneg→Jc,le_trans→Lf,ediv_one→Lg
open PyProof.Rows.SortSt renaming mk'→Q5
open Option renaming map_some→Q6,isSome_some→zZ,isSome_map→Al,bind_some→Dj,none→Ja
open PySem.NameKind renaming free→R3,cell→bR
open PySem.Obj renaming data_mapFields→S3,mapFields→U6,mapSeq→X6,isFreed_of_fields→cE,cls_mapFields→Fh
open PySem.SeqAt renaming shaped→T5
open Sum renaming inl→U2,inr→mS
open PySem.Str renaming ofString→U3
open True renaming intro→U4
open PySem.F renaming slot_int_rmul→U5,slot_dict_itemiterator_next→Y1,slot_tuple_iterator_next→ax,args_tuple_mul_2→bz,entry_tuple_mul→cw,slot_tuple_mul→dc,args_tuple_add_2→eJ,entry_tuple_add→fh,slot_tuple_add→gx,args_int_rmul_2→gJ,slot_dict_get→gM,entry_int_rmul→iY,slot_zip_next→jE,fills_int_mul→jF,args_dict_itemiterator_next_1→pR,type_tuple_count→qZ,slot_tuple_count→rf,entry_dict_itemiterator_next→rh,slot_dict_items→sV,plainAttrs_list→sW,plainAttrs_dict→sX,args_dict_get_3→sY,slot_dict_itemiterator_iter→tf,entry_dict_get→tE,args_tuple_iterator_next_1→tI,entry_tuple_iterator_next→vA,slot_dict_items_iter→Ay,args_zip_next_1→IE,entry_zip_next→Jd
open Array renaming length_toList→U8,getElem?_setIfInBounds_self_of_lt→je,getElem?_toList→xp,toList_reverse→yW,toList_zip→DW,toList_map→DX,toList→Je
open PySem.Heap.SameBut renaming update→Y8
open Rat renaming mul_lt_mul_of_pos_right→Z6,mkRat_def→lI
open List.Pairwise renaming nil→aw,imp_of_mem→mh
open PySem.Builtin.Dict_items renaming ownsTuple→aG,ownedTupleIsFree→eK,ownedTupleFields→eL,pairFromOwner→fZ
open PySem.Calls renaming callWith_builtin→bA,evalArgs_plain→cL,spliced_cons→kQ,Name_function_global→rj,Constant_str→Az,spliced_nil→Dw
open PyProof.Rows.IsTup renaming new→cu
open PySem.Builtin.List renaming listTooLong→dB
open PySem.Paired renaming length→fb,snoc→IZ
open ForInStep renaming yield→fY
open PySem.Builtin.ObjectAttr renaming bindTo→jn
open PySem.Builtin.Dict renaming showsAll→pj
open PySem.Heap.IsSliceOf renaming new→pQ
open PySem.EntryCells renaming newEntry→tJ
open PySem.SeqAt.EqAt renaming int_int→vt
open PySem.Heap.DictOf renaming new→xn
open PySem.Around renaming frames_deeper→xt
open PySem.W.Looks renaming of_pure→Di
open PySem.Shared renaming TypeIs→FX,heap→IX
open PySem.W.WShape renaming has→KD
open PySem.CmpOp renaming NotIn→KH
set_option Elab.async false
set_option linter.all false
set_option maxRecDepth 100000
namespace L2
open PySem PySem.Spec PyProof.Rows
noncomputable abbrev V0:=Sum Int Str
noncomputable def lU:V0->d6->Bool
 | .inl k,v=>yR k v
 | .inr x,v=>Iz x v
noncomputable def keyH (w:t9):V0->Int
 | .inl k=>hashInt k
 | .inr x=>hashStr w x
theorem S5:∀{k:V0}{v:d6},lU k v=true->(∃i t,k=U2 i/\v=mR i t) ∨ (∃x t,k=mS x/\v=vp x t)
 | .inl i,v,h=>by
  obtain ⟨t,e⟩:=Value.isInt_shape (k:=i) (v:=v) h
  exact .inl ⟨i,t,rfl,e⟩
 | .inr x,v,h=>by
  obtain ⟨t,e⟩:=Value.isStrOf_shape (x:=x) (v:=v) h
  exact .inr ⟨x,t,rfl,e⟩
theorem zC (i:Int) (t:Tok):lU (.inl i) (.int i t)=true:=by simp[lU,yR]
theorem zB (x:Str) (t:Tok):lU (.inr x) (.str x t)=true:=by simp[lU,Iz]
theorem HR (a b:Int):decide ((U2 a:V0)=U2 b)=(a == b):=by
 by_cases e:a=b
 ·subst e;simp
 ·have h:¬ (U2 a:V0)=U2 b:=fun q=>e (Sum.inl.inj q)
  rw[decide_eq_false h]
  exact (beq_eq_false_iff_ne.mpr e).symm
theorem HK (a b:Str):decide ((mS a:V0)=mS b)=decide (a=b):=by
 by_cases e:a=b
 ·subst e;simp
 ·have h:¬ (mS a:V0)=mS b:=fun q=>e (Sum.inr.inj q)
  rw[decide_eq_false h,decide_eq_false e]
theorem HN (a:Int) (b:Str):decide ((U2 a:V0)=mS b)=false:=decide_eq_false (fun q=>nomatch q)
theorem HM (a:Str) (b:Int):decide ((mS a:V0)=U2 b)=false:=decide_eq_false (fun q=>nomatch q)
noncomputable def P4 (prog:j9) (w:t9):PySem.KeyKind prog w V0 where
 is:=lU
 hash:=keyH w
 inj:=fun v a b ha hb=>by
  rcases S5 ha with ⟨i,t,rfl,rfl⟩|⟨x,t,rfl,rfl⟩
  ·rcases S5 hb with ⟨j,u,rfl,e⟩|⟨y,u,rfl,e⟩
   ·injection e with e1 _;rw[e1]
   ·exact nomatch e
  ·rcases S5 hb with ⟨j,u,rfl,e⟩|⟨y,u,rfl,e⟩
   ·exact nomatch e
   ·injection e with e1 _;rw[e1]
 byValue:=fun k v h=>by
  rcases S5 h with ⟨i,t,rfl,rfl⟩|⟨x,t,rfl,rfl⟩ <;> rfl
 pyHash:=fun hv h=>by
  rcases S5 hv with ⟨i,t,rfl,rfl⟩|⟨x,t,rfl,rfl⟩
  ·exact wpAny_pyHash_int h
  ·exact wpAny_pyHash_str h
 eqBool:=fun hu hv h=>by
  rcases S5 hu with ⟨i,t,rfl,rfl⟩|⟨x,t,rfl,rfl⟩
  ·rcases S5 hv with ⟨j,u,rfl,rfl⟩|⟨y,u,rfl,rfl⟩
   ·rw[HR] at h;exact wpAny_eqBool_int h
   ·rw[HN] at h;exact SeqAt.EqAt.int_str i t y u _ _ _ _ h
  ·rcases S5 hv with ⟨j,u,rfl,rfl⟩|⟨y,u,rfl,rfl⟩
   ·rw[HM] at h;exact SeqAt.EqAt.str_int x t j u _ _ _ _ h
   ·rw[HK] at h;exact wpAny_eqBool_str h
 «strs»:=fun k x t v h=>by
  rcases S5 h with ⟨i,u,rfl,e⟩|⟨y,u,rfl,e⟩
  ·exact nomatch e
  ·injection e with e1 _
   subst e1
   cases v <;> rfl
theorem uv (prog:j9) (w:t9) (i:Int) (t:Tok):(P4 prog w).is (.inl i) (.int i t)=true:=zC i t
theorem ur (prog:j9) (w:t9) (x:Str) (t:Tok):(P4 prog w).is (.inr x) (.str x t)=true:=zB x t
inductive V where
 | non|bl (b:Bool)|int (i:Int)|str (x:Str)|byt (b:Array UInt8)|flt (b:UInt64)|ref (a:Addr)|ty (n:String)
 deriving DecidableEq
noncomputable def G8:V->d6->Prop
 | .non,u=>u=D9
 | .bl b,u=>u=W7 b
 | .int i,u=>∃t,u=mR i t
 | .str x,u=>∃t,u=vp x t
 | .byt b,u=>∃t,u=Value.bytes b t
 | .flt b,u=>∃t,u=KF b t
 | .ref a,u=>u=B1 a
 | .ty n,u=>u=Value.type n
noncomputable abbrev F2:List V->List d6->Prop:=yT G8
theorem F2.length {xs:List V}{us:List d6} (r:F2 xs us):xs.length=us.length:=fb r
theorem F2.get:∀{xs:List V}{us:List d6}{i:Nat}{x:V},F2 xs us->xs[i]?=some x->∃u,us[i]?=some u/\G8 x u
 | _,_,_,_,.nil,e=>by simp at e
 | _,_,0,_,.cons r _,e=>by simp at e;subst e;exact ⟨_,rfl,r⟩
 | _,_,i+1,x,.cons _ t,e=>by
  obtain ⟨u,h1,h2⟩:=F2.get (i:=i) (x:=x) t (by simpa using e)
  exact ⟨u,by simpa using h1,h2⟩
theorem F2.set {x:V}{u:d6} (r:G8 x u):∀{xs:List V}{us:List d6} (i:Nat),F2 xs us->F2 (xs.set i x) (us.set i u)
 | _,_,_,.nil=>.nil
 | _,_,0,.cons _ t=>.cons r t
 | _,_,i+1,.cons q t=>.cons q (F2.set r i t)
theorem F2.append:∀{xs ys:List V}{us ws:List d6},F2 xs us->F2 ys ws->F2 (xs++ys) (us++ws)
 | _,_,_,_,.nil,s=>s
 | _,_,_,_,.cons r t,s=>.cons r (F2.append t s)
theorem F2.take:∀{xs:List V}{us:List d6} (n:Nat),F2 xs us->F2 (xs.take n) (us.take n)
 | _,_,0,_=>.nil
 | _,_,_+1,.nil=>.nil
 | _,_,n+1,.cons r t=>.cons r (F2.take n t)
theorem F2.drop:∀{xs:List V}{us:List d6} (n:Nat),F2 xs us->F2 (xs.drop n) (us.drop n)
 | _,_,0,r=>r
 | _,_,_+1,.nil=>.nil
 | _,_,n+1,.cons _ t=>F2.drop n t
noncomputable def lG:Option V->Option d6->Prop
 | some v,some u=>G8 v u
 | none,none=>True
 | _,_=>False
noncomputable def KV {κ:Type}:List (κ × V)->List (κ × d6)->Prop:=yT fun (p:κ × V) (q:κ × d6)=>p.1=q.1/\G8 p.2 q.2
noncomputable def kV:V0->V
 | .inl i=>.int i
 | .inr x=>.str x
inductive HO where
 | lst (xs:List V)
 | tup (xs:List V)
 | dK (kvs:List (V0 × V))|dT (kvs:List (List V0 × V))
 | set (S:Int->Bool) (n:Nat)
 | ins (C dx:Addr) (fs:List (Str × V))
 | own (x:Addr)
 | xd (fs:List (Str × V))
 | met (f x:Addr)
 | rng (lo hi:Int)
 | frz (o:Obj) (u:HO)
 | tbl (ps:Array d6)
 | ext (φ:Heap->Prop)
noncomputable abbrev Hp:=Addr->Option HO
noncomputable def t6 (H:Hp) (a:Addr) (o:HO):Hp:=fun b=>if b=a then some o else H b
variable {H:Hp}{a:Addr}{o:HO}
theorem f6 :t6 H a o a=some o:=by unfold t6;rw[if_pos rfl]
variable {b:Addr}
theorem B6 (h:b≠a):t6 H a o b=H b:=by unfold t6;rw[if_neg h]
theorem qm {u:HO} (h:H a=some o) (h':H b=some u) (d:o≠u):a≠b:=by
 intro e;subst e;rw[h] at h';exact d (D1 h')
theorem v8 (h:H a=some o) (h':H b=none):a≠b:=by
 intro e;subst e;rw[h] at h';cases h'
section
variable (P:j9) (w:t9)
noncomputable def NoDc (h:Heap) (a:Addr):Prop:=∃o,h.get? a=some o/\o.dict=none
noncomputable def N9 (H:Hp) (h:Heap) (a:Addr):HO->Prop
 | .lst xs=>xs.length<=i7/\∃(its:List d6) (n:Nat),F2 xs its/\h.get? a=some { cls:=.type "list",data:=.seq its.toArray n }
 | .tup xs=>(xs.length<=i7/\NoDc h a)/\∃its:List d6,F2 xs its/\Ds h a its.toArray
 | .dK kvs=>kvs.length<=i7/\(a == W0)=false/\∃vs,KV kvs vs/\h.DictOf (P4 P w) a vs
 | .dT kvs=>kvs.length<=i7/\(a == W0)=false/\∃xs:List (List V0 × Addr × d6),
   yT (fun (p:List V0 × V) (q:List V0 × Addr × d6)=>p.1=q.1/\H q.2.1=some (.tup (p.1.map kV))/\G8 p.2 q.2.2) kvs xs /\
   ∃o es ep,h.get? a=some o/\o.ExactDict/\o.data=.dict es ep/\es.toList=xs.map (entryOfKey (dE (P4 P w)))/\(xs.map (·.1)).Nodup
 | .set S n=>h.SetOf (intKind P w) a S n
 | .ins C dx fs=>H dx=some (.own a)/\fs.length<=1000/\dx≠a/\h.get? a=some (IU C dx) /\
   ∃mA,h.Ns1 dx mA/\(∀f,lG (fs.lookup f) (mA f))/\IY mA (fs.map (·.1))
 | .own _=>∃o,h.get? a=some o
 | .xd fs=>∃mA,h.Ns1 a mA/\∀f,lG (fs.lookup f) (mA f)
 | .rng lo hi=>∃t u v,h.get? a=some { cls:=.type "range",data:=.fields #[.int lo t,.int hi u,.int 1 v] }
 | .frz o u=>h.get? a=some o/\N9 H h a u
 | .tbl ps=>h.get? a=some { cls:=.none,data:=.fields ps }
 | .met f x=>h.get? a=some (DP (.ref f) (.ref x))
 | .ext φ=>φ h/\(∃o,h.get? a=some o)/\∀h1 h2:Heap,φ h1->(∀o,h1.get? a=some o->h2.get? a=some o)->φ h2
noncomputable def bh (H:Hp) (h:Heap):Prop:=∀a o,H a=some o->N9 P w H h a o
end
section
variable {P:j9}{w:t9}{H H':Hp}{h h':Heap}{a:Addr}{o:HO}
theorem N9.lt (x:N9 P w H h a o):a<h.objs.size:=by
 cases o with
 | lst xs=>obtain ⟨_,_,_,_,e⟩:=x;exact m7 e
 | tup xs=>obtain ⟨_,_,_,p⟩:=x;exact p.lt
 | dK kvs=>obtain ⟨_,_,_,_,o,_,_,e,_⟩:=x;exact m7 e
 | dT kvs=>obtain ⟨_,_,_,_,o,_,_,e,_⟩:=x;exact m7 e
 | set S n=>obtain ⟨o,_,_,_,e,_⟩:=x;exact m7 e
 | ins C dx fs=>obtain ⟨_,_,_,e,_⟩:=x;exact m7 e
 | own y=>obtain ⟨_,e⟩:=x;exact m7 e
 | xd fs=>obtain ⟨_,⟨_,_,_,e,_⟩,_⟩:=x;exact m7 e
 | rng lo hi=>obtain ⟨_,_,_,e⟩:=x;exact m7 e
 | frz ob u=>obtain ⟨e,_⟩:=x;exact m7 e
 | tbl ps=>exact m7 (show h.get? a=some _ from x)
 | met f y=>exact m7 (show h.get? a=some _ from x)
 | ext φ=>obtain ⟨_,⟨_,e⟩,_⟩:=x;exact m7 e
theorem Paired.mapP {α β:Type}{F G:α->β->Prop}:∀{l₁:List α}{l₂:List β},yT F l₁ l₂->(∀a b,F a b->G a b)->yT G l₁ l₂
 | _,_,.nil,_=>.nil
 | _,_,.cons r t,f=>.cons (f _ _ r) (Paired.mapP t f)
theorem N9.stay (x:N9 P w H h a o) (k:∀b u,(b=a ∨ H b=some (.own a))->h.get? b=some u->h'.get? b=some u)
  (ho:∀b,H b=some (.own a)->H' b=some (.own a)) (ht:∀b xs,H b=some (.tup xs)->H' b=some (.tup xs)):N9 P w H' h' a o:=by
 induction o with
 | lst xs=>obtain ⟨z,its,n,r,e⟩:=x;exact ⟨z,its,n,r,k _ _ (.inl rfl) e⟩
 | tup xs=>obtain ⟨⟨z,on,en,dn⟩,its,r,ob,e,c⟩:=x;exact ⟨⟨z,on,k _ _ (.inl rfl) en,dn⟩,its,r,ob,k _ _ (.inl rfl) e,c⟩
 | dK kvs=>obtain ⟨z,y,vs,r,ob,es,ep,e,c⟩:=x;exact ⟨z,y,vs,r,ob,es,ep,k _ _ (.inl rfl) e,c⟩
 | dT kvs =>
  obtain ⟨z,y,xs,r,ob,es,ep,e,c⟩:=x
  exact ⟨z,y,xs,Paired.mapP r fun p q z=>⟨z.1,ht _ _ z.2.1,z.2.2⟩,ob,es,ep,k _ _ (.inl rfl) e,c⟩
 | set S n=>obtain ⟨ob,es,ep,t,e,c⟩:=x;exact ⟨ob,es,ep,t,k _ _ (.inl rfl) e,c⟩
 | ins C dx fs =>
  obtain ⟨d,z,ne,e,mA,⟨od,es,ep,e2,c⟩,r⟩:=x
  exact ⟨ho _ d,z,ne,k _ _ (.inl rfl) e,mA,⟨od,es,ep,k _ _ (.inr d) e2,c⟩,r⟩
 | own y=>obtain ⟨ob,e⟩:=x;exact ⟨ob,k _ _ (.inl rfl) e⟩
 | xd fs=>obtain ⟨mA,⟨od,es,ep,e,c⟩,r⟩:=x;exact ⟨mA,⟨od,es,ep,k _ _ (.inl rfl) e,c⟩,r⟩
 | rng lo hi=>obtain ⟨t,u,v,e⟩:=x;exact ⟨t,u,v,k _ _ (.inl rfl) e⟩
 | frz ob u ih=>obtain ⟨e,q⟩:=x;exact ⟨k _ _ (.inl rfl) e,ih q⟩
 | tbl ps =>
  have e:h.get? a=some { cls:=.none,data:=.fields ps }:=x
  show h'.get? a=some { cls:=.none,data:=.fields ps }
  exact k a _ (.inl rfl) e
 | met f y =>
  have e:h.get? a=some (DP (.ref f) (.ref y)):=x
  show h'.get? a=some (DP (.ref f) (.ref y))
  exact k a _ (.inl rfl) e
 | ext φ=>obtain ⟨p,⟨o,e⟩,st⟩:=x;exact ⟨st _ _ p fun o q=>k _ _ (.inl rfl) q,⟨o,k _ _ (.inl rfl) e⟩,st⟩
theorem bh.lt (x:bh P w H h) (e:H a=some o):a<h.objs.size:=(x a o e).lt
theorem bh.fresh (x:bh P w H h) (e:h.objs.size<=a):H a=none:=by
 cases q:H a with
 | none=>rfl
 | some u=>exact absurd (B4 (x.lt q) e) (O2 _)
theorem bh.kept (x:bh P w H h) (k:∀b u,h.get? b=some u->h'.get? b=some u):bh P w H h':=fun a o e =>
 (x a o e).stay (fun b u _ q=>k b u q) (fun _ q=>q) fun _ _ q=>q
theorem bh.laid (x:bh P w H h) (k:∀b u,h.get? b=some u->h'.get? b=some u) (hp:h.objs.size<=a) (new:N9 P w (t6 H a o) h' a o):bh P w (t6 H a o) h':=fun b u e=>by
 have hn:=x.fresh hp
 by_cases hb:b=a
 ·subst hb;rw[f6] at e;cases e;exact new
 ·rw[B6 hb] at e
  exact (x b u e).stay (fun c v _ q=>k c v q) (fun c q=>by rw[B6 (v8 q hn)];exact q) fun c xs q=>by rw[B6 (v8 q hn)];exact q
end
noncomputable def Rd (H:Hp) (a:Addr) (u:HO):Prop:=H a=some u ∨ ∃o,H a=some (.frz o u)
variable {P:j9}{w:t9}{h:Heap}
theorem Rd.ok {u:HO} (r:Rd H a u) (x:bh P w H h):N9 P w H h a u:=by
 rcases r with r|⟨o,r⟩
 ·exact x a u r
 ·obtain ⟨_,q⟩:=x a _ r
  exact q
noncomputable def Kf:Option HO->Prop
 | some (.lst _)=>True
 | some (.dK _)=>True
 | some (.dT _)=>True
 | some (.set _ _)=>True
 | some (.ins _ _ _)=>True
 | some (.ext _)=>True
 | _=>False
section
variable {P:j9}{w:t9}{H:Hp}{h h':Heap}{x e:Addr}{o':HO}
theorem bh.write (ok:bh P w H h) (mu:Kf (H x)) (he:e=x ∨ H e=some (.own x)) (k:∀b u,b≠e->h.get? b=some u->h'.get? b=some u) (heo:∃u,h'.get? e=some u)
  (new:N9 P w (t6 H x o') h' x o'):bh P w (t6 H x o') h':=fun b u q=>by
 have nown:∀c y,H c=some (.own y)->c≠x:=fun c y r z=>by subst z;rw[r] at mu;exact mu
 have ntup:∀c xs,H c=some (.tup xs)->c≠x:=fun c xs r z=>by subst z;rw[r] at mu;exact mu
 by_cases hb:b=x
 ·subst hb;rw[f6] at q;cases q;exact new
 ·rw[B6 hb] at q
  by_cases hbe:b=e
  ·have q':H b=some (.own x):=by
    rcases he with z|z
    ·exact absurd (hbe.trans z) hb
    ·rw[hbe];exact z
   rw[q] at q';cases q'
   obtain ⟨v,hv⟩:=heo
   exact ⟨v,by rw[hbe];exact hv⟩
  ·refine (ok b u q).stay (fun c v hc r=>k c v ?_ r) (fun c r=>by rw[B6 (nown c b r)];exact r) fun c xs r=>by rw[B6 (ntup c xs r)];exact r
   rcases hc with rfl|hc
   ·exact hbe
   ·rintro rfl
    rcases he with z|z
    ·exact nown c b hc z
    ·rw[hc] at z;cases z;exact hb rfl
end
structure Un (fs ex:List Addr) (H H':Hp) (h h':Heap):Prop where
 keep:∀b o,h.get? b=some o->H b=none->b ∉ fs->b ∉ ex->h'.get? b=some o
 slot:∀b o,h.get? b=some o->H b=none->b∈fs->b ∉ ex->∃sl,h'.get? b=some { o with slots:=sl }
 free:∀b o,h.get? b=some o->H b=none->b ∉ ex->H' b=none
 there:∀b o,h.get? b=some o->b ∉ ex->∃o',h'.get? b=some o'
 tups:∀b xs,H b=some (.tup xs)->H' b=some (.tup xs)
 frzs:∀b o u,H b=some (.frz o u)->H' b=some (.frz o u)
 tbls:∀b ps,H b=some (.tbl ps)->∃more,H' b=some (.tbl (ps++more))
section
variable {fs fs' ex ex':List Addr}{H H1 H2:Hp}{h h1 h2 h':Heap}{a x e:Addr}{o:HO}
theorem Un.any (u:Un fs ex H H1 h h1) {b:Addr}{ob:Obj} (q:h.get? b=some ob) (n:H b=none) (hx:b ∉ ex):∃sl,h1.get? b=some { ob with slots:=sl }:=by
 by_cases hb:b∈fs
 ·exact u.slot b ob q n hb hx
 ·exact ⟨ob.slots,u.keep b ob q n hb hx⟩
theorem Un.kept (k:∀b u,h.get? b=some u->h'.get? b=some u):Un fs ex H H h h' :=
 ⟨fun b ob q _ _ _=>k b ob q,fun b ob q _ _ _=>⟨ob.slots,k b ob q⟩,fun _ _ _ n _=>n,fun b ob q _=>⟨ob,k b ob q⟩,fun _ _ q=>q,fun _ _ _ q=>q,fun _ ps q=>⟨#[],by rw[q];simp⟩⟩
theorem Un.refl:Un fs ex H H h h:=Un.kept fun _ _ q=>q
theorem Un.laid (k:∀b u,h.get? b=some u->h'.get? b=some u) (hp:h.objs.size<=a) (hn:H a=none):Un fs ex H (t6 H a o) h h' where
 keep:=fun b u q _ _ _=>k b u q
 slot:=fun b u q _ _ _=>⟨u.slots,k b u q⟩
 free:=fun b u q n _=>by rw[B6 (w9 (B4 (m7 q) hp))];exact n
 there:=fun b u q _=>⟨u,k b u q⟩
 tups:=fun b xs q=>by rw[B6 (v8 q hn)];exact q
 frzs:=fun b u xs q=>by rw[B6 (v8 q hn)];exact q
 tbls:=fun b ps q=>⟨#[],by rw[B6 (v8 q hn),q];simp⟩
theorem Un.write (mu:Kf (H x)) (he:e=x ∨ H e=some (.own x)) (k:∀b u,b≠e->h.get? b=some u->h'.get? b=some u) (heo:∃u,h'.get? e=some u):Un fs ex H (t6 H x o) h h':=by
 have hx:∀b,H b=none->b≠x:=fun b n z=>by subst z;rw[n] at mu;exact mu
 have hb:∀b,H b=none->b≠e:=fun b n z=>by
  subst z
  rcases he with r|r
  ·exact hx b n r
  ·rw[n] at r;cases r
 have hm:∀b u,H b=some u->¬ Kf (some u)->b≠x:=fun b u q nm z=>by subst z;rw[q] at mu;exact nm mu
 refine ⟨fun b u q n _ _=>k b u (hb b n) q,fun b u q n _ _=>⟨u.slots,k b u (hb b n) q⟩,fun b u q n _=>by rw[B6 (hx b n)];exact n,fun b u q _=>?_,
  fun b xs q=>by rw[B6 (hm b _ q fun z=>z)];exact q,fun b u xs q=>by rw[B6 (hm b _ q fun z=>z)];exact q,fun b ps q=>⟨#[],by rw[B6 (hm b _ q fun z=>z),q];simp⟩⟩
 by_cases hbe:b=e
 ·subst hbe;exact heo
 ·exact ⟨u,k b u hbe q⟩
end
noncomputable def KI (h:Heap) (H:Hp):List Addr:=(D4 h.objs.size).filter fun a=>(H a).isSome
noncomputable def pI (h:Heap) (H:Hp):Heap:=W.hideAll h (KI h H)
theorem zF (h:Heap) (H:Hp):(pI h H).objs.size=h.objs.size:=W.hideAll_size _ _
theorem Cm {o:Obj} (e:h.get? b=some o) (n:H b=none):(pI h H).get? b=some o :=
 W.hideAll_get _ e fun hm=>by
  have q:(H b).isSome=true:=(List.mem_filter.mp hm).2
  rw[n] at q;simp at q
theorem EB {o:Obj} (e:(pI h H).get? b=some o):h.get? b=some o/\H b=none:=by
 have e':h.get? b=some o:=W.of_hideAll (KI h H) e
 refine ⟨e',?_⟩
 cases q:H b with
 | none=>rfl
 | some x =>
  have hm:b∈KI h H:=List.mem_filter.mpr ⟨List.mem_range.mpr (m7 e'),by simp[q]⟩
  have z:(pI h H).get? b=none:=W.hideAll_none (KI h H) hm
  rw[z] at e;cases e
noncomputable def EY (g h:Heap) (L:Addr):List (Addr × Obj):=(D4 h.objs.size).filterMap fun a=>if a=L ∨ (g.get? a).isSome=true then none else (h.get? a).map fun o=>(a,o)
noncomputable def jw (g h:Heap) (L d:Addr):List (Addr × Obj):=(EY g h L).filter fun p=>decide (p.1≠d)
structure Mod (K:m9) (mg:Str->Option d6) (base:Heap):Prop where
 kin:K.In base
 glob:base.Ns u5 mg
 blt:∃mb,base.Ns jL mb/\∀x:Str,x≠"__name__"->mb x=V4 x
 nolimit:base.NoLimit
structure Cx where
 prog:j9
 w:t9
 K:m9
 mg:Str->Option d6
 base:Heap
 A:v7
 N:List Str
 s₀:d7
 H₀:Hp
 env:Env
 outer:List Env
 stack:List Env
 ex:List Addr
 fn:Str->Bool
 calm:Bool
 pn:List (Addr × Obj)
 xe:d6->d7->Prop
noncomputable def kr (l:List Env):List Addr:=l.filterMap (·.frame)
noncomputable abbrev Cx.fs (X:Cx):List Addr:=kr X.outer
noncomputable def Ka (sc:N3) (x:Str):Prop:=sc.names.lookup x=some .local ∨ sc.names.lookup x=some .cell ∨ sc.names.lookup x=some .free
noncomputable def Kh (sc:N3) (x:Str):Prop:=sc.names.lookup x=some .local ∨ sc.names.lookup x=some .cell
noncomputable def Look (env:Env) (h:Heap) (m:Str->Option d6) (x:Str) (u:d6):Prop :=
 (env.kindOf x=some .local/\m x=some u) ∨ ((env.kindOf x=some .cell ∨ env.kindOf x=some .free)/\∃c,env.cells.lookup x=some c/\h.IsCell c (some u))
structure Cx.Ok (X:Cx):Prop where
 mod:Mod X.K X.mg X.base
 kind:X.env.scope.kind=.function
 glob:X.env.globals=u5
 blt:X.env.builtins=jL
 above:X.s₀.heap.objs.size<=X.env.locals
 inj:∀x y c,X.env.cells.lookup x=some c->X.env.cells.lookup y=some c->x=y
 has:∀x,(X.env.kindOf x=some .cell ∨ X.env.kindOf x=some .free)->∃c,X.env.cells.lookup x=some c
 cab:∀x c,X.fn x=true->X.env.cells.lookup x=some c->X.s₀.heap.objs.size<=c
 hd:X.calm=true->X.A.handled=none
 frames:X.A.frames=some X.stack
 stk:X.stack=X.outer ∨ (X.stack=X.env::X.outer/\X.env.frame=some X.env.locals)
 exf:∀b∈X.ex,b≠X.env.locals/\∀x c,X.env.cells.lookup x=some c->c≠b
 bs:∀b o,X.base.get? b=some o->X.s₀.heap.get? b=some o/\X.H₀ b=none
 bsz:X.base.objs.size<=X.s₀.heap.objs.size
 noex:∀b o,X.base.get? b=some o->b ∉ X.ex
 exfs:∀b∈X.ex,b ∉ X.fs
 funs:X.s₀.heap.FunFrames X.base X.outer
 frf:∀b∈X.fs,X.H₀ b=none
structure C6 (X:Cx) (pins:List (Addr × Obj)) (σ:List (Option V)) (H:Hp) (s:d7):Prop where
 ok:X.Ok
 os:s.os=X.s₀.os
 bare:iA s.gens
 base:Un X.fs X.ex X.H₀ H X.s₀.heap s.heap
 loc:∃m,s.heap.Ns X.env.locals m/\∀(i:Nat) (x:Str) (v:V),X.N[i]?=some x->σ[i]?=some (some v)->Ka X.env.scope x->∃u,G8 v u/\Look X.env s.heap m x u
 cell:∀x c,X.env.cells.lookup x=some c->∃v,s.heap.IsCell c v
 free:H X.env.locals=none
 freeC:∀x c,X.env.cells.lookup x=some c->H c=none
 pin:∀p∈X.pn++pins,s.heap.get? p.1=some p.2/\H p.1=none/\p.1≠X.env.locals/\p.1 ∉ X.fs/\∀v,p.2.data≠.cell v
 hok:bh X.prog X.w H s.heap
 len:σ.length=X.N.length
section
variable {X:Cx}{pins:List (Addr × Obj)}{σ:List (Option V)}{H H':Hp}{s:d7}{h':Heap}
theorem Cx.Ok.nofr (ok:X.Ok) {b:Addr}{o:Obj} (e:X.base.get? b=some o):b ∉ X.fs:=fun hb=>by
 have:=(ok.funs.mem hb).1
 rw[e] at this;cases this
theorem C6.bs (I:C6 X pins σ H s):∀b o,X.base.get? b=some o->s.heap.get? b=some o/\H b=none:=fun b o e =>
 ⟨I.base.keep b o (I.ok.bs b o e).1 (I.ok.bs b o e).2 (I.ok.nofr e) (I.ok.noex b o e),I.base.free b o (I.ok.bs b o e).1 (I.ok.bs b o e).2 (I.ok.noex b o e)⟩
theorem C6.bk (I:C6 X pins σ H s):∀b o,X.base.get? b=some o->s.heap.get? b=some o:=fun b o e=>(I.bs b o e).1
theorem C6.mod (I:C6 X pins σ H s):Mod X.K X.mg X.base:=I.ok.mod
theorem C6.kIn (I:C6 X pins σ H s):X.K.In s.heap:=I.ok.mod.kin.keeps I.bk
theorem C6.nolimit (I:C6 X pins σ H s):s.heap.NoLimit:=I.ok.mod.nolimit.keeps I.bk
theorem C6.lt (I:C6 X pins σ H s):X.env.locals<s.heap.objs.size:=let ⟨_,hn,_⟩:=I.loc;hn.lt
theorem C6.sz (I:C6 X pins σ H s):X.s₀.heap.objs.size<=s.heap.objs.size:=m8 I.ok.above (dX I.lt)
theorem C6.nofs (I:C6 X pins σ H s) {a:Addr} (h:s.heap.objs.size<=a):a ∉ X.fs:=fun hb=>by
 obtain ⟨_,o,ho,_⟩:=I.ok.funs.mem hb
 exact absurd (B4 (m7 ho) (m8 I.sz h)) (O2 _)
theorem C6.cne (I:C6 X pins σ H s):∀x c,X.env.cells.lookup x=some c->c≠X.env.locals:=fun x c e z=>by
 obtain ⟨v,o,ho,hd⟩:=I.cell x c e
 obtain ⟨m,⟨o',es,ep,ho',hd',_⟩,_⟩:=I.loc
 rw[z,ho'] at ho;cases ho;rw[hd'] at hd;cases hd
theorem C6.funs (I:C6 X pins σ H s):s.heap.FunFrames X.base X.outer:=by
 have all:∀(l:List Env),(∀b∈kr l,b∈X.fs)->X.s₀.heap.FunFrames X.base l->s.heap.FunFrames X.base l:=by
  intro l
  induction l with
  | nil=>intro _ _;trivial
  | cons env r ih =>
   intro hs hl
   obtain ⟨hk,⟨L,o,hf,hn,ho,hd⟩,hr⟩:=hl
   have hL:L∈X.fs:=hs L (by unfold kr;rw[dI,hf];exact i4)
   obtain ⟨sl,e⟩:=I.base.slot L o ho (I.ok.frf L hL) hL fun z=>I.ok.exfs L z hL
   exact ⟨hk,⟨L,_,hf,hn,e,hd⟩,ih (fun b hb=>hs b (by unfold kr;rw[dI,hf];exact f7 _ hb)) hr⟩
 exact all X.outer (fun _ hb=>hb) I.ok.funs
theorem C6.stack (I:C6 X pins σ H s):s.heap.FunFrames X.base X.stack:=by
 rcases I.ok.stk with e|⟨e,hf⟩
 ·rw[e];exact I.funs
 ·rw[e]
  obtain ⟨m,hn,_⟩:=I.loc
  refine .cons (by rw[I.ok.kind];decide) hf hn ?_ I.funs
  exact jD (m8 I.ok.bsz I.ok.above)
theorem C6.stkSub (I:C6 X pins σ H s):∀b∈kr X.stack,b∈X.env.locals::X.fs:=fun b hb=>by
 rcases I.ok.stk with e|⟨e,hf⟩
 ·rw[e] at hb;exact f7 _ hb
 ·rw[e] at hb
  unfold kr at hb
  rw[dI,hf] at hb
  exact hb
theorem C6.stkFree (I:C6 X pins σ H s):∀b∈kr X.stack,H b=none:=fun b hb=>by
 rcases List.mem_cons.mp (I.stkSub b hb) with e|hb
 ·rw[e];exact I.free
 ·obtain ⟨_,o,ho,_⟩:=I.ok.funs.mem hb
  exact I.base.free b o ho (I.ok.frf b hb) fun z=>I.ok.exfs b z hb
variable {t':Nat}{ch:List Addr}
theorem C6.step {g':Array Gb}{d':Drawn}(I:C6 X pins σ H s)
  (hch:∀b∈ch,(b∈X.ex ∨ X.s₀.heap.objs.size<=b)/\b≠X.env.locals/\(∀x c,X.env.cells.lookup x=some c->c≠b)/\∀p∈X.pn++pins,p.1≠b)
  (keep:∀b o,b≠X.env.locals->b ∉ X.fs->b ∉ ch->s.heap.get? b=some o->H b=none->h'.get? b=some o)
  (slot:∀b o,b≠X.env.locals->b∈X.fs->b ∉ ch->s.heap.get? b=some o->H b=none->∃sl,h'.get? b=some { o with slots:=sl }) (free:∀b o,b ∉ ch->s.heap.get? b=some o->H b=none->H' b=none)
  (there:∀b o,b ∉ ch->s.heap.get? b=some o->∃o',h'.get? b=some o')
  (tups:∀b xs,H b=some (.tup xs)->H' b=some (.tup xs)) (frzs:∀b o u,H b=some (.frz o u)->H' b=some (.frz o u)) (tbls:∀b ps,H b=some (.tbl ps)->∃more,H' b=some (.tbl (ps++more)))
  (ns:∀m,s.heap.Ns X.env.locals m->h'.Ns X.env.locals m) (hok:bh X.prog X.w H' h') (hg:iA g'):
  C6 X pins σ H' { s with heap:=h',gens:=g',drawn:=d',toks:=t' }:=by
 have neL:∀b o,X.s₀.heap.get? b=some o->b≠X.env.locals:=fun b o e=>w9 (B4 (m7 e) I.ok.above)
 have neC:∀b o,X.s₀.heap.get? b=some o->b ∉ X.ex->b ∉ ch:=fun b o e hx hb=>by
  rcases (hch b hb).1 with z|z
  ·exact hx z
  ·exact absurd (B4 (m7 e) z) (O2 _)
 have cellK:∀x c,X.env.cells.lookup x=some c->∀v,s.heap.IsCell c v->h'.IsCell c v:=fun x c e v ⟨o,ho,hd⟩=>by
  have nch:c ∉ ch:=fun z=>(hch c z).2.2.1 x c e rfl
  by_cases hc:c∈X.fs
  ·obtain ⟨sl,q⟩:=slot c o (I.cne x c e) hc nch ho (I.freeC x c e)
   exact ⟨_,q,hd⟩
  ·exact ⟨o,keep c o (I.cne x c e) hc nch ho (I.freeC x c e),hd⟩
 refine ⟨I.ok,I.os,hg,⟨fun b o e n hb hx=>?_,fun b o e n hb hx=>?_,fun b o e n hx=>?_,fun b o e hx=>?_,fun b xs e=>tups b xs (I.base.tups b xs e),fun b o xs e=>frzs b o xs (I.base.frzs b o xs e),fun b ps e=>?_⟩,?_,fun x c e=>?_,?_,fun x c e=>?_,fun p hp=>?_,hok,I.len⟩
 ·exact keep b o (neL b o e) hb (neC b o e hx) (I.base.keep b o e n hb hx) (I.base.free b o e n hx)
 ·obtain ⟨sl,e1⟩:=I.base.slot b o e n hb hx
  obtain ⟨sl',e2⟩:=slot b _ (neL b o e) hb (neC b o e hx) e1 (I.base.free b o e n hx)
  exact ⟨sl',e2⟩
 ·obtain ⟨o',e1⟩:=I.base.there b o e hx
  exact free b o' (neC b o e hx) e1 (I.base.free b o e n hx)
 ·obtain ⟨o',e1⟩:=I.base.there b o e hx
  exact there b o' (neC b o e hx) e1
 ·obtain ⟨m1,e1⟩:=I.base.tbls b ps e
  obtain ⟨m2,e2⟩:=tbls b _ e1
  exact ⟨m1++m2,by rw[e2,Array.append_assoc]⟩
 ·obtain ⟨m,hn,hl⟩:=I.loc
  refine ⟨m,ns m hn,fun i x v e1 e2 e3=>?_⟩
  obtain ⟨u,r,l⟩:=hl i x v e1 e2 e3
  refine ⟨u,r,?_⟩
  rcases l with l|⟨k,c,e,z⟩
  ·exact .inl l
  ·exact .inr ⟨k,c,e,cellK x c e _ z⟩
 ·obtain ⟨v,z⟩:=I.cell x c e
  exact ⟨v,cellK x c e v z⟩
 ·obtain ⟨m,⟨o,_,_,ho,_⟩,_⟩:=I.loc
  exact free _ o (fun z=>(hch _ z).2.1 rfl) ho I.free
 ·obtain ⟨v,o,ho,hd⟩:=I.cell x c e
  exact free c o (fun z=>(hch c z).2.2.1 x c e rfl) ho (I.freeC x c e)
 ·obtain ⟨e,n,ne,nf,d⟩:=I.pin p hp
  have nch:p.1 ∉ ch:=fun z=>(hch p.1 z).2.2.2 p hp rfl
  exact ⟨keep p.1 p.2 ne nf nch e n,free p.1 p.2 nch e n,ne,nf,d⟩
theorem C6.un (I:C6 X pins σ H s) (u:Un X.fs [] H H' s.heap h') (hok:bh X.prog X.w H' h'):C6 X pins σ H' { s with heap:=h',toks:=t' }:=by
 obtain ⟨m,⟨o,es,ep,ho,r⟩,_⟩:=id I.loc
 obtain ⟨sl,hL⟩:=u.any ho I.free (by simp)
 exact I.step (g':=s.gens) (d':=s.drawn) (ch:=[]) (fun _ z=>nomatch z) (fun b o _ hb _ e n=>u.keep b o e n hb (by simp)) (fun b o _ hb _ e n=>u.slot b o e n hb (by simp)) (fun b o _ e n=>u.free b o e n (by simp)) (fun b o _ e=>u.there b o e (by simp)) u.tups u.frzs u.tbls (fun m' hm=>by
  obtain ⟨o',es',ep',ho',r'⟩:=hm
  rw[ho] at ho';cases ho'
  exact ⟨_,es',ep',hL,r'⟩) hok I.bare
theorem C6.call {g':Array Gb}{d':Drawn}(I:C6 X pins σ H s) (u:Un (kr X.stack) ch H H' s.heap h') (hok:bh X.prog X.w H' h') (hg:iA g')
  (hch:∀b∈ch,(b∈X.ex ∨ X.s₀.heap.objs.size<=b)/\b≠X.env.locals/\(∀x c,X.env.cells.lookup x=some c->c≠b)/\∀p∈X.pn++pins,p.1≠b):
  C6 X pins σ H' { s with heap:=h',gens:=g',drawn:=d',toks:=t' }:=by
 obtain ⟨m,⟨o,es,ep,ho,r⟩,_⟩:=id I.loc
 obtain ⟨sl,hL⟩:=u.any ho I.free fun z=>(hch _ z).2.1 rfl
 exact I.step (ch:=ch) hch (fun b o hL hb hc e n=>u.keep b o e n (fun z=>(List.mem_cons.mp (I.stkSub b z)).elim hL hb) hc) (fun b o _ _ hc e n=>u.any e n hc) (fun b o hc e n=>u.free b o e n hc) (fun b o hc e=>u.there b o e hc) u.tups u.frzs u.tbls (fun m' hm=>by
  obtain ⟨o',es',ep',ho',r'⟩:=hm
  rw[ho] at ho';cases ho'
  exact ⟨_,es',ep',hL,r'⟩) hok hg
theorem C6.turned {it:Addr} (I:C6 X pins σ H s) (k:∀b o,b≠it->s.heap.get? b=some o->h'.get? b=some o) (hn:H it=none) (hL:it≠X.env.locals)
  (h1:it∈X.ex ∨ X.s₀.heap.objs.size<=it) (h2:∀x c,X.env.cells.lookup x=some c->c≠it) (h3:∀p∈X.pn++pins,p.1≠it):C6 X pins σ H { s with heap:=h',toks:=t' }:=by
 have nit:∀b u,H b=some u->b≠it:=fun b u e z=>by rw[z,hn] at e;cases e
 refine I.step (g':=s.gens) (d':=s.drawn) (ch:=[it]) (fun b hb=>?_) (fun b o _ _ hc e _=>k b o (fun z=>hc (by simp[z])) e) (fun b o _ _ hc e _=>⟨o.slots,k b o (fun z=>hc (by simp[z])) e⟩) (fun _ _ _ _ n=>n)
  (fun b o hc e=>⟨o,k b o (fun z=>hc (by simp[z])) e⟩) (fun _ _ e=>e) (fun _ _ _ e=>e) (fun b ps e=>⟨#[],by rw[e];simp⟩) (fun m hm=>?_) (fun b u e=>?_) I.bare
 ·have e:b=it:=by simpa using hb
  subst e
  exact ⟨h1,hL,h2,h3⟩
 ·obtain ⟨o,es,ep,ho,r⟩:=hm
  exact ⟨o,es,ep,k _ o (M3 hL) ho,r⟩
 ·refine (I.hok b u e).stay (fun c v hc q=>k c v ?_ q) (fun _ q=>q) fun _ _ q=>q
  rcases hc with z|z
  ·rw[z];exact nit b u e
  ·exact nit c _ z
theorem C6.tok (I:C6 X pins σ H s) (t:Nat):C6 X pins σ H { s with toks:=t }:=I.un (h':=s.heap) (t':=t) Un.refl I.hok
theorem C6.kept {t':Nat} (I:C6 X pins σ H s) (k:∀b u,s.heap.get? b=some u->h'.get? b=some u):C6 X pins σ H { s with heap:=h',toks:=t' }:=I.un (Un.kept k) (I.hok.kept k)
theorem C6.laid {a:Addr}{o:HO}{t':Nat} (I:C6 X pins σ H s) (k:∀b u,s.heap.get? b=some u->h'.get? b=some u) (hp:s.heap.objs.size<=a) (new:N9 X.prog X.w (t6 H a o) h' a o):
  C6 X pins σ (t6 H a o) { s with heap:=h',toks:=t' }:=I.un (Un.laid k hp (I.hok.fresh hp)) (I.hok.laid k hp new)
theorem C6.write {x e:Addr}{o:HO}{t':Nat} (I:C6 X pins σ H s) (mu:Kf (H x)) (he:e=x ∨ H e=some (.own x)) (k:∀b u,b≠e->s.heap.get? b=some u->h'.get? b=some u) (heo:∃u,h'.get? e=some u)
  (new:N9 X.prog X.w (t6 H x o) h' x o):C6 X pins σ (t6 H x o) { s with heap:=h',toks:=t' }:=I.un (Un.write mu he k heo) (I.hok.write mu he k heo new)
theorem C6.weak {σ':List (Option V)} (I:C6 X pins σ H s) (hl:σ'.length=σ.length) (w:∀(i:Nat) v,σ'[i]?=some (some v)->σ[i]?=some (some v)):C6 X pins σ' H s :=
 ⟨I.ok,I.os,I.bare,I.base,let ⟨m,hn,hl'⟩:=I.loc;⟨m,hn,fun i x v e1 e2 e3=>hl' i x v e1 (w i v e2) e3⟩,I.cell,I.free,I.freeC,I.pin,I.hok,hl.trans I.len⟩
theorem C6.pins_of {pins':List (Addr × Obj)} (I:C6 X pins σ H s) (h:∀p∈pins',s.heap.get? p.1=some p.2/\H p.1=none/\p.1≠X.env.locals/\p.1 ∉ X.fs/\∀v,p.2.data≠.cell v):C6 X pins' σ H s :=
 ⟨I.ok,I.os,I.bare,I.base,I.loc,I.cell,I.free,I.freeC,fun p hp=>(List.mem_append.mp hp).elim (fun z=>I.pin p (T9 _ z)) (h p),I.hok,I.len⟩
variable {i:Nat}{x:Str}
theorem nW {N:List Str} (hN:N.Nodup) {j:Nat}(a:N[i]?=some x) (b:N[j]?=some x):i=j:=by
 obtain ⟨h1,e1⟩:=List.getElem?_eq_some_iff.mp a
 obtain ⟨h2,e2⟩:=List.getElem?_eq_some_iff.mp b
 exact (List.getElem_inj hN).mp (e1.trans e2.symm)
theorem qa {M:oP}{A:v7}{E:d6->d7->Prop}{v:V}{u:d6}{Q:Unit->d7->Prop} (I:C6 X pins σ H s) (hN:X.N.Nodup) (hi:X.N[i]?=some x) (hx:Kh X.env.scope x) (r:G8 v u)
  (h:∀s',C6 X pins (σ.set i (some v)) H s'->(∃a,R6 a s.heap s'.heap/\(a=X.env.locals ∨ X.env.cells.lookup x=some a))->Q () s') (hf:X.fn x=true ∨ X.env.scope.names.lookup x=some .local:=by first|exact .inl rfl|exact .inr rfl|assumption):r0 M A (storeName X.env x u) Q E s:=by
 obtain ⟨m,hn,hl⟩:=id I.loc
 have hcls:(X.env.scope.kind == .class || (X.env.scope.kind == .module&&X.env.locals != X.env.globals))=false:=by rw[I.ok.kind];rfl
 have hiσ:i<σ.length:=by rw[I.len];exact (List.getElem?_eq_some_iff.mp hi).1
 have cne:=I.cne
 have tracked:∀{a:Addr}{h':Heap},(∃o,s.heap.get? a=some o/\H a=none)->R6 a s.heap h'->bh X.prog X.w H h':=fun {a h'} ha hs b ob e=>by
  obtain ⟨_,_,hfree⟩:=ha
  refine (I.hok b ob e).stay (fun c w' hc q=>(hs.2 c ?_).trans q) (fun _ q=>q) fun _ _ q=>q
  rintro rfl
  rcases hc with rfl|hc
  ·rw[hfree] at e;cases e
  ·rw[hfree] at hc;cases hc
 rcases hx with hk|hk
 ·refine wpAny_storeName_local hk hn (fun h' hn' hs=>?_) hcls
  obtain ⟨oL,_,_,hoL,_⟩:=id hn
  refine h _ ⟨I.ok,I.os,I.bare,⟨fun b o e n hb hx=>?_,fun b o e n hb hx=>?_,I.base.free,fun b o e hx=>?_,I.base.tups,I.base.frzs,I.base.tbls⟩,⟨_,hn',fun j y v' e1 e2 e3=>?_⟩,fun y c e=>?_,I.free,I.freeC,fun p hp=>?_,tracked ⟨oL,hoL,I.free⟩ hs,by simpa using I.len⟩ ⟨_,hs,.inl rfl⟩
  ·exact (hs.2 b (w9 (B4 (m7 e) I.ok.above))).trans (I.base.keep b o e n hb hx)
  ·obtain ⟨sl,e1⟩:=I.base.slot b o e n hb hx
   exact ⟨sl,(hs.2 b (w9 (B4 (m7 e) I.ok.above))).trans e1⟩
  ·obtain ⟨o',e1⟩:=I.base.there b o e hx
   exact ⟨o',(hs.2 b (w9 (B4 (m7 e) I.ok.above))).trans e1⟩
  ·by_cases hj:j=i
   ·subst hj
    rw[hi] at e1;cases e1
    rw[X3 hiσ] at e2
    cases e2
    exact ⟨u,r,.inl ⟨hk,by simp⟩⟩
   ·rw[K4 (M3 hj)] at e2
    obtain ⟨u',r',q⟩:=hl j y v' e1 e2 e3
    refine ⟨u',r',?_⟩
    rcases q with ⟨k,e⟩|⟨k,c,e,z⟩
    ·refine .inl ⟨k,?_⟩
     have:y≠x:=fun e=>hj (nW hN e1 (e ▸ hi))
     simp[this,e]
    ·exact .inr ⟨k,c,e,z.sameBut hs (cne y c e)⟩
  ·obtain ⟨w',z⟩:=I.cell y c e
   exact ⟨w',z.sameBut hs (cne y c e)⟩
  ·obtain ⟨e,n,ne,nf,d⟩:=I.pin p hp
   exact ⟨(hs.2 p.1 ne).trans e,n,ne,nf,d⟩
 ·have hfn:X.fn x=true:=by
   rcases hf with z|z
   ·exact z
   ·rw[z] at hk;cases hk
  obtain ⟨c,hc⟩:=I.ok.has x (.inl hk)
  obtain ⟨w',z⟩:=I.cell x c hc
  refine wpAny_storeName_cell I.ok.kind hk hc z (fun h' hc' hs=>?_)
  obtain ⟨oc,hoc,hocd⟩:=id z
  refine h { s with heap:=h' } ⟨I.ok,I.os,I.bare,⟨fun b o e n hb hx=>?_,fun b o e n hb hx=>?_,I.base.free,fun b o e hx=>?_,I.base.tups,I.base.frzs,I.base.tbls⟩,⟨m,hn.sameBut hs (M3 (cne x c hc)),fun j y v' e1 e2 e3=>?_⟩,fun y c' e=>?_,I.free,I.freeC,fun p hp=>?_,tracked ⟨oc,hoc,I.freeC x c hc⟩ hs,by simpa using I.len⟩ ⟨c,hs,.inr hc⟩
  ·exact (hs.2 b (w9 (B4 (m7 e) (I.ok.cab x c hfn hc)))).trans (I.base.keep b o e n hb hx)
  ·obtain ⟨sl,e1⟩:=I.base.slot b o e n hb hx
   exact ⟨sl,(hs.2 b (w9 (B4 (m7 e) (I.ok.cab x c hfn hc)))).trans e1⟩
  ·obtain ⟨o',e1⟩:=I.base.there b o e hx
   exact ⟨o',(hs.2 b (w9 (B4 (m7 e) (I.ok.cab x c hfn hc)))).trans e1⟩
  ·by_cases hj:j=i
   ·subst hj
    rw[hi] at e1;cases e1
    rw[X3 hiσ] at e2
    cases e2
    exact ⟨u,r,.inr ⟨.inl hk,c,hc,hc'⟩⟩
   ·rw[K4 (M3 hj)] at e2
    obtain ⟨u',r',q⟩:=hl j y v' e1 e2 e3
    refine ⟨u',r',?_⟩
    rcases q with q|⟨k,c',e,z'⟩
    ·exact .inl q
    ·refine .inr ⟨k,c',e,z'.sameBut hs ?_⟩
     rintro rfl
     exact hj (nW hN e1 (I.ok.inj _ _ _ e hc ▸ hi))
  ·by_cases hcc:c'=c
   ·subst hcc;exact ⟨_,hc'⟩
   ·obtain ⟨w2,z2⟩:=I.cell y c' e
    exact ⟨w2,z2.sameBut hs hcc⟩
  ·obtain ⟨e,n,ne,nf,d⟩:=I.pin p hp
   refine ⟨(hs.2 p.1 ?_).trans e,n,ne,nf,d⟩
   intro q
   rw[q,hoc] at e
   have q':oc=p.2:=D1 e
   exact d w' (by rw[<- q'];exact hocd)
theorem eP {M:oP}{A:v7}{E:d6->d7->Prop}{v:V}{u:d6}{Q:Unit->d7->Prop} (I:C6 X pins σ H s) (hN:X.N.Nodup) (hi:X.N[i]?=some x) (hx:Kh X.env.scope x) (r:G8 v u)
  (h:∀s',C6 X pins (σ.set i (some v)) H s'->Q () s') (hf:X.fn x=true ∨ X.env.scope.names.lookup x=some .local:=by first|exact .inl rfl|exact .inr rfl|assumption):r0 M A (storeName X.env x u) Q E s :=
 qa I hN hi hx r (fun s' I' _=>h s' I') hf
theorem C6.call' {s':d7}(I:C6 X pins σ H s) (ho:s'.os=s.os) (u:Un (kr X.stack) ch H H' s.heap s'.heap) (hok:bh X.prog X.w H' s'.heap) (hg:iA s'.gens)
  (hch:∀b∈ch,(b∈X.ex ∨ X.s₀.heap.objs.size<=b)/\b≠X.env.locals/\(∀x c,X.env.cells.lookup x=some c->c≠b)/\∀p∈X.pn++pins,p.1≠b):C6 X pins σ H' s':=by
 obtain ⟨h',g',d',t',o'⟩:=s'
 have e:o'=s.os:=ho
 subst e
 exact I.call (g':=g') (t':=t') (d':=d') u hok hg hch
end
noncomputable abbrev XK:=d6->Option Addr->Hp->Prop
noncomputable abbrev St:=List (Option V)
noncomputable abbrev VK:=V->Hp->Prop
noncomputable abbrev TE:=St->Hp->VK->Prop
noncomputable abbrev TT:=St->Hp->(Bool->Hp->Prop)->Prop
noncomputable abbrev TA:=St->Hp->(List V->Hp->Prop)->Prop
structure kJ where
 nx:St->Hp->Prop
 rt:VK
 bk:St->Hp->Prop:=fun _ _=>False
 ct:St->Hp->Prop:=fun _ _=>False
noncomputable abbrev TS:=kJ->St->Hp->Prop
noncomputable def EP (X:Cx) (pins:List (Addr × Obj)) (σ:St) (Q:VK) (u:d6) (s':d7):Prop:=∃v H',C6 X pins σ H' s'/\G8 v u/\Q v H'
noncomputable def TP (X:Cx) (pins:List (Addr × Obj)) (σ:St) (Q:Bool->Hp->Prop) (b:Bool) (s':d7):Prop:=∃H',C6 X pins σ H' s'/\Q b H'
noncomputable def AP (X:Cx) (pins:List (Addr × Obj)) (σ:St) (Q:List V->Hp->Prop) (us:List d6) (s':d7):Prop:=∃vs H',C6 X pins σ H' s'/\F2 vs us/\Q vs H'
noncomputable def SP (X:Cx) (pins:List (Addr × Obj)) (D:kJ) (f:Flow) (s':d7):Prop :=
 match f with
 | .next=>∃σ' H',C6 X pins σ' H' s'/\D.nx σ' H'
 | .brk=>∃σ' H',C6 X pins σ' H' s'/\D.bk σ' H'
 | .cont=>∃σ' H',C6 X pins σ' H' s'/\D.ct σ' H'
 | .ret u=>∃v σ' H',C6 X pins σ' H' s'/\G8 v u/\D.rt v H'
noncomputable def PE (X:Cx) (e:Expr) (t:TE):Prop :=
 ∀(pins:List (Addr × Obj)) (s:d7) (σ:St) (H:Hp) (Q:VK),C6 X pins σ H s->t σ H Q->r0 (y6 X.prog X.w) X.A (eval e X.env) (EP X pins σ Q) X.xe s
noncomputable def PT (X:Cx) (e:Expr) (t:TT):Prop :=
 ∀(pins:List (Addr × Obj)) (s:d7) (σ:St) (H:Hp) (Q:Bool->Hp->Prop),C6 X pins σ H s->t σ H Q->r0 (y6 X.prog X.w) X.A (IR e X.env (eval e X.env)) (TP X pins σ Q) X.xe s
noncomputable def PW (X:Cx) (e:Expr) (t:TT):Prop :=
 ∀(whole:Sem d6) (pins:List (Addr × Obj)) (s:d7) (σ:St) (H:Hp) (Q:Bool->Hp->Prop),C6 X pins σ H s->t σ H Q->r0 (y6 X.prog X.w) X.A (IR e X.env whole) (TP X pins σ Q) X.xe s
variable {X:Cx}
theorem PW.pt {e:Expr}{t:TT} (h:PW X e t):PT X e t:=h _
noncomputable def PA (X:Cx) (es:List Expr) (t:TA):Prop :=
 ∀(pos:Pos) (pins:List (Addr × Obj)) (s:d7) (σ:St) (H:Hp) (Q:List V->Hp->Prop),C6 X pins σ H s->t σ H Q->r0 (y6 X.prog X.w) X.A (spliced (S9 pos (w6 es X.env))) (AP X pins σ Q) X.xe s
noncomputable def PS (X:Cx) (st:Stmt) (t:TS):Prop :=
 ∀(pins:List (Addr × Obj)) (s:d7) (σ:St) (H:Hp) (D:kJ),C6 X pins σ H s->t D σ H->r0 (y6 X.prog X.w) X.A (exec st X.env) (SP X pins D) X.xe s
noncomputable def pM (X:Cx) (st:List Stmt) (t:TS):Prop :=
 ∀(pins:List (Addr × Obj)) (s:d7) (σ:St) (H:Hp) (D:kJ),C6 X pins σ H s->t D σ H->r0 (y6 X.prog X.w) X.A (execs st X.env) (SP X pins D) X.xe s
variable {A:v7}{E:d6->d7->Prop}{s:d7}
theorem Q9 {α:Type}{t:Sem α}{Q Q':α->d7->Prop}{M:oP}(h:r0 M A t Q E s) (hQ:∀a s,Q a s->Q' a s):r0 M A t Q' E s:=F0 h hQ fun _ _ x=>x
section
variable {X:Cx}
noncomputable def O9 (i:Nat):TE:=fun σ H Q=>∃v,σ[i]?=some (some v)/\Q v H
noncomputable def tC (v:V):TE:=fun _ H Q=>Q v H
variable {x:Str}
theorem wx {i:Nat}{pos:Pos} (hN:X.N[i]?=some x) (hv:Ka X.env.scope x) (hd:(x == ("__debug__":Str))=false:=by decide) (hcd:(x == ("__classdict__":Str))=false:=by decide):PE X (.Name x pos) (O9 i):=by
 intro pins s σ H Q I h
 obtain ⟨v,e,h⟩:=h
 obtain ⟨m,hn,hl⟩:=I.loc
 obtain ⟨u,r,l⟩:=hl i x v hN e hv
 have fin:EP X pins σ Q u s:=⟨v,H,I,r,h⟩
 rcases l with ⟨hk,hm⟩|⟨hk,c,hc,hcell⟩
 ·exact IP (wpAny_loadName_local I.ok.kind hk hn hm fin) hd
 ·rcases hk with hk|hk
  ·exact IP (wpAny_loadName_cell I.ok.kind hk hc hcell fin) hd
  ·exact IP (wpAny_loadName_free I.ok.kind hk hc hcell fin hcd) hd
theorem j8 {i j pos}:PE X (.Constant (.int i) j pos) (tC (.int i)):=fun _ _ _ H _ I h=>oV ⟨.int i,H,I.tok _,⟨_,rfl⟩,h⟩
theorem Y4 {b j pos}:PE X (.Constant (.bool b) j pos) (tC (.bl b)):=fun _ _ _ H _ I h=>Constant_bool ⟨.bl b,H,I,rfl,h⟩
theorem fI {j pos}:PE X (.Constant .none j pos) (tC .non):=fun _ _ _ H _ I h=>Constant_none ⟨.non,H,I,rfl,h⟩
theorem ie {x j pos}:PE X (.Constant (.str x) j pos) (tC (.str x)):=fun _ _ _ H _ I h=>Az ⟨.str x,H,I.tok _,⟨_,rfl⟩,h⟩
noncomputable def Gl (X:Cx) (x:Str):Prop:=X.env.kindOf x=some .globalImplicit
variable {u:d6}
theorem kc {E:d6->d7->Prop}{pins:List (Addr × Obj)}{s:d7}{σ:St}{H:Hp}{pos:Pos}{Q:d6->d7->Prop} (I:C6 X pins σ H s) (hg:Gl X x) (hm:X.mg x=some u) (h:Q u s)
  (hd:(x == ("__debug__":Str))=false:=by decide):r0 (y6 X.prog X.w) X.A (eval (.Name x pos) X.env) Q E s :=
 rj I.ok.kind hg (Calls.loadGlobal_global (by rw[I.ok.glob];exact I.mod.glob.keeps I.bk) hm h) hd
theorem lu {E:d6->d7->Prop}{pins:List (Addr × Obj)}{s:d7}{σ:St}{H:Hp}{pos:Pos}{Q:d6->d7->Prop} (I:C6 X pins σ H s) (hg:Gl X x) (hm:X.mg x=none) (hv:V4 x=some u) (h:Q u s)
  (hn:x≠"__name__":=by decide) (hd:(x == ("__debug__":Str))=false:=by decide):r0 (y6 X.prog X.w) X.A (eval (.Name x pos) X.env) Q E s:=by
 obtain ⟨mb,h1,h2⟩:=I.mod.blt
 exact rj I.ok.kind hg (Calls.loadGlobal_builtin (by rw[I.ok.glob];exact I.mod.glob.keeps I.bk) hm (by rw[I.ok.blt];exact h1.keeps I.bk) ((h2 x hn).trans hv) h) hd
theorem V6 {v:V}{pos:Pos} (hg:Gl X x) (hm:X.mg x=some u) (r:G8 v u) (hd:(x == ("__debug__":Str))=false:=by decide):PE X (.Name x pos) (tC v):=
 fun _ _ _ H _ I h=>kc I hg hm ⟨v,H,I,r,h⟩ hd
theorem Eo {v:V}{pos:Pos} (hg:Gl X x) (hm:X.mg x=none) (hv:V4 x=some u) (r:G8 v u) (hn:x≠"__name__":=by decide) (hd:(x == ("__debug__":Str))=false:=by decide):PE X (.Name x pos) (tC v):=
 fun _ _ _ H _ I h=>lu I hg hm hv ⟨v,H,I,r,h⟩ hn hd
variable {a b:Expr}{ta tb:TE}{pos:Pos}
noncomputable def PC (X:Cx) (op:Dv) (a b:Expr) (t:TE):Prop :=
 ∀(pins:List (Addr × Obj)) (s:d7) (σ:St) (H:Hp) (Q:VK),C6 X pins σ H s->t σ H Q ->
  r0 (y6 X.prog X.w) X.A (eval a X.env) (fun v s₁=>r0 (y6 X.prog X.w) X.A (eval b X.env) (fun u s₂=>r0 (y6 X.prog X.w) X.A (P9 op v u) (EP X pins σ Q) X.xe s₂) X.xe s₁) X.xe s
theorem BQ (b:Expr) {op:Dv} (h:op≠.In) (h2:op≠.NotIn):bw op b=false:=by
 have e1:(op == CmpOp.In)=false:=by cases op <;> first|rfl|exact absurd rfl h
 have e2:(op == KH)=false:=by cases op <;> first|rfl|exact absurd rfl h2
 cases b <;> simp[bw,e1,e2]
noncomputable def tIsN (ta:TE):TE:=fun σ H Q=>ta σ H fun x H1=>Q (.bl (decide (x=.non))) H1
theorem G8.none_iff {x:V}{v:d6} (r:G8 x v):(v == D9)=decide (x=.non):=by
 cases x with
 | non=>cases r;rfl
 | bl _=>cases r;rfl
 | int _=>obtain ⟨t,rfl⟩:=r;rfl
 | str _=>obtain ⟨t,rfl⟩:=r;rfl
 | byt _=>obtain ⟨t,rfl⟩:=r;rfl
 | flt _=>obtain ⟨t,rfl⟩:=r;rfl
 | ref _=>cases r;rfl
 | ty _=>cases r;rfl
theorem GU {j pos'} (ha:PE X a ta):PC X .Is a (.Constant .none j pos') (tIsN ta):=by
 intro pins s σ H Q I h
 refine Q9 (ha pins s σ H _ I h) fun v s1 ⟨x,H1,I1,r1,q1⟩=>?_
 exact Constant_none (is_none_gen ⟨.bl _,H1,I1,by rw[r1.none_iff];rfl,q1⟩)
noncomputable def tB (t:TE):TT:=fun σ H Q=>t σ H fun x H1=>∃c,x=.bl c/\Q c H1
theorem Bm {op:Dv}{t:TE} (h:PC X op a b t) (h1:bw op b=false:=by first|exact BQ _ (by decide) (by decide)|rfl):PT X (.Compare a [op] [b] pos) (tB t):=by
 intro pins s σ H Q I hw
 refine Ff (Q9 (h pins s σ H _ I hw) fun v s1 h1=>Q9 h1 fun u s2 h2=>Q9 h2 fun c s3 ⟨x,H1,I1,r1,q1⟩=>?_) h1
 obtain ⟨d,rfl,q⟩:=q1
 cases r1
 exact O6 ⟨H1,I1,q⟩
theorem V5 {e:Expr}{t:TE} (h:PE X e t) (he:∀whole,IR e X.env whole=(do let v <- whole;standAt e.pos;KA [v] (truthy v)):=by intro _;rfl):PT X e (tB t):=by
 intro pins s σ H Q I hw
 refine isTrue_plain (Q9 (h pins s σ H _ I hw) fun v s1 ⟨x,H1,I1,r1,q1⟩=>?_) (he _)
 obtain ⟨d,rfl,q⟩:=q1
 cases r1
 exact O6 ⟨H1,I1,q⟩
variable {tA tB':TT}{jw:List Expr}
noncomputable def tAnd (t u:TT):TT:=fun σ H Q=>t σ H fun c H1=>if c=true then u σ H1 Q else Q false H1
noncomputable def tOr (t u:TT):TT:=fun σ H Q=>t σ H fun c H1=>if c=true then Q true H1 else u σ H1 Q
noncomputable def tNot (t:TT):TT:=fun σ H Q=>t σ H fun c H1=>Q (!c) H1
theorem xK (ha:PT X a tA):PW X (.BoolOp .And [a] pos) tA:=by
 intro wh pins s σ H Q I h
 refine isTrue_and (Q9 (ha pins s σ H Q I h) fun c s1 e=>?_)
 cases c with
 | true=>exact isTrue_and_nil e
 | false=>exact e
theorem fF (ha:PT X a tA):PW X (.BoolOp .Or [a] pos) tA:=by
 intro wh pins s σ H Q I h
 refine isTrue_or (Q9 (ha pins s σ H Q I h) fun c s1 e=>?_)
 cases c with
 | false=>exact isTrue_or_nil e
 | true=>exact e
theorem Bi (ha:PT X a tA) (hb:PW X (.BoolOp .And (b::jw) pos) tB'):PW X (.BoolOp .And (a::b::jw) pos) (tAnd tA tB'):=by
 intro wh pins s σ H Q I h
 refine isTrue_and (Q9 (ha pins s σ H _ I h) fun c s1 ⟨H1,I1,q1⟩=>?_)
 cases c with
 | true=>exact hb wh pins s1 σ H1 Q I1 q1
 | false=>exact ⟨H1,I1,q1⟩
theorem jU (ha:PT X a tA) (hb:PW X (.BoolOp .Or (b::jw) pos) tB'):PW X (.BoolOp .Or (a::b::jw) pos) (tOr tA tB'):=by
 intro wh pins s σ H Q I h
 refine isTrue_or (Q9 (ha pins s σ H _ I h) fun c s1 ⟨H1,I1,q1⟩=>?_)
 cases c with
 | true=>exact ⟨H1,I1,q1⟩
 | false=>exact hb wh pins s1 σ H1 Q I1 q1
theorem Y3 (ha:PT X a tA):PT X (.UnaryOp .Not a pos) (tNot tA):=by
 intro pins s σ H Q I h
 exact isTrue_not (ha pins s σ H (fun c H1=>Q (!c) H1) I h)
noncomputable def Fu (ta tb:TE):TE:=fun σ H Q=>ta σ H fun x H1=>∃c,x=.bl c/\if c=true then tb σ H1 Q else Q (.bl false) H1
noncomputable def Jg (ta:TE):TE:=fun σ H Q=>ta σ H fun x H1=>∃c,x=.bl c/\Q (.bl (!c)) H1
theorem cB {op}{t:TE} (h:PE X a t):PE X (.BoolOp op [a] pos) t:=fun pins s σ H Q I hw=>BoolOp_one (h pins s σ H Q I hw)
theorem cC (ha:PE X a ta) (hb:PE X (.BoolOp .And (b::jw) pos) tb):PE X (.BoolOp .And (a::b::jw) pos) (Fu ta tb):=by
 intro pins s σ H Q I h
 refine BoolOp_and (Q9 (ha pins s σ H _ I h) fun v s1 ⟨x,H1,I1,r1,q1⟩=>?_)
 obtain ⟨c,rfl,q1⟩:=q1
 cases r1
 refine O6 ?_
 cases c with
 | true=>exact hb pins s1 σ H1 Q I1 q1
 | false=>exact ⟨.bl false,H1,I1,rfl,q1⟩
theorem wz (ha:PE X a ta):PE X (.UnaryOp .Not a pos) (Jg ta):=by
 intro pins s σ H Q I h
 refine UnaryOp_ (Q9 (ha pins s σ H _ I h) fun v s1 ⟨x,H1,I1,r1,q1⟩=>?_)
 obtain ⟨c,rfl,q1⟩:=q1
 cases r1
 exact not_of (O6 ⟨.bl (!c),H1,I1,rfl,q1⟩)
end
noncomputable def dC (K:m9) (H:Hp) (a:Addr) (xs:List V):Prop :=
 Rd H a (.lst xs) ∨
  ∃(o:Obj) (its:Array d6) (n:Nat),K.lookup a=some o/\o.cls=.type "list"/\o.dict=none/\o.data=.seq its n/\its.size<=i7/\F2 xs its.toList
noncomputable def aQ (K:m9) (H:Hp) (a:Addr) (xs:List V):Prop :=
 Rd H a (.tup xs) ∨
  ∃(o:Obj) (its:Array d6) (n:Nat),K.lookup a=some o/\o.cls=.type "tuple"/\o.data=.seq its n/\its.size<=i7/\F2 xs its.toList
noncomputable def absV:d6->Option V
 | .none=>some .non
 | .bool b=>some (.bl b)
 | .int i _=>some (.int i)
 | .str x _=>some (.str x)
 | .bytes b _=>some (.byt b)
 | .float b _=>some (.flt b)
 | .ref a=>some (.ref a)
 | .type n=>some (.ty n)
 | _=>none
variable {u:d6}
theorem G8.abs {x:V}(r:G8 x u):absV u=some x:=by
 cases x with
 | non=>cases r;rfl
 | bl _=>cases r;rfl
 | int _=>obtain ⟨t,rfl⟩:=r;rfl
 | str _=>obtain ⟨t,rfl⟩:=r;rfl
 | byt _=>obtain ⟨t,rfl⟩:=r;rfl
 | flt _=>obtain ⟨t,rfl⟩:=r;rfl
 | ref _=>cases r;rfl
 | ty _=>cases r;rfl
theorem G8.inj {x y:V}(r:G8 x u) (q:G8 y u):x=y:=D1 (r.abs.symm.trans q.abs)
theorem F2.inj:∀{xs ys:List V}{us:List d6},F2 xs us->F2 ys us->xs=ys
 | _,_,_,.nil,.nil=>rfl
 | _,_,_,.cons r t,.cons r' t'=>by rw[r.inj r',F2.inj t t']
section
variable {X:Cx}{pins:List (Addr × Obj)}{σ:St}{H:Hp}{s:d7}{a:Addr}{xs ys:List V}
theorem dC.of {K:m9} (h:H a=some (.lst xs)):dC K H a xs:=.inl (.inl h)
theorem aQ.of {K:m9} (h:H a=some (.tup xs)):aQ K H a xs:=.inl (.inl h)
theorem C6.list (I:C6 X pins σ H s) (h:dC X.K H a xs):∃its:List d6,F2 xs its/\PlainL s.heap a its.toArray/\xs.length<=i7:=by
 rcases h with h|⟨o,its,n,hk,hc,hd,hs,hz,r⟩
 ·obtain ⟨z,its,n,r,e⟩:=h.ok I.hok
  exact ⟨its,r,⟨_,n,e,rfl,rfl,rfl⟩,z⟩
 ·refine ⟨its.toList,r,⟨o,n,I.kIn a o hk,hc,hd,by simpa using hs⟩,?_⟩
  have e:=r.length
  simp only[U8] at e
  lia
theorem C6.tuple (I:C6 X pins σ H s) (h:aQ X.K H a xs):∃its:List d6,F2 xs its/\Ds s.heap a its.toArray/\xs.length<=i7:=by
 rcases h with h|⟨o,its,n,hk,hc,hs,hz,r⟩
 ·obtain ⟨z,its,r,p⟩:=h.ok I.hok
  exact ⟨its,r,p,z.1⟩
 ·refine ⟨its.toList,r,⟨o,I.kIn a o hk,hc,n,by simpa using hs⟩,?_⟩
  have e:=r.length
  simp only[U8] at e
  lia
theorem C6.list_inj (I:C6 X pins σ H s) (h:dC X.K H a xs) (h':dC X.K H a ys):xs=ys:=by
 obtain ⟨its,r,⟨o,n,e,_,_,d⟩,_⟩:=I.list h
 obtain ⟨its',r',⟨o',n',e',_,_,d'⟩,_⟩:=I.list h'
 rw[e] at e';cases e'
 rw[d] at d'
 injection d' with d1 _
 have:its=its':=by simpa using congrArg Je d1
 subst this
 exact r.inj r'
theorem C6.tuple_inj (I:C6 X pins σ H s) (h:aQ X.K H a xs) (h':aQ X.K H a ys):xs=ys:=by
 obtain ⟨its,r,⟨o,e,_,n,d⟩,_⟩:=I.tuple h
 obtain ⟨its',r',⟨o',e',_,n',d'⟩,_⟩:=I.tuple h'
 rw[e] at e';cases e'
 rw[d] at d'
 injection d' with d1 _
 have:its=its':=by simpa using congrArg Je d1
 subst this
 exact r.inj r'
end
noncomputable abbrev Cx.wish (X:Cx) (E:d6->d7->Prop):Cx:={ X with xe:=E }
noncomputable abbrev Cx.nox (X:Cx):Cx:=X.wish fun _ _=>False
theorem Cx.Ok.wish {X:Cx} (ok:X.Ok) (E:d6->d7->Prop):(X.wish E).Ok :=
 ⟨ok.mod,ok.kind,ok.glob,ok.blt,ok.above,ok.inj,ok.has,ok.cab,ok.hd,ok.frames,ok.stk,ok.exf,ok.bs,ok.bsz,ok.noex,ok.exfs,ok.funs,ok.frf⟩
theorem Cx.Ok.unwish (ok:(X.wish E).Ok):X.Ok :=
 ⟨ok.mod,ok.kind,ok.glob,ok.blt,ok.above,ok.inj,ok.has,ok.cab,ok.hd,ok.frames,ok.stk,ok.exf,ok.bs,ok.bsz,ok.noex,ok.exfs,ok.funs,ok.frf⟩
section
variable {X:Cx}{pins:List (Addr × Obj)}{σ:St}{H:Hp}{s:d7}{E:d6->d7->Prop}
theorem C6.wish (I:C6 X pins σ H s) (E:d6->d7->Prop):C6 (X.wish E) pins σ H s:=⟨I.ok.wish E,I.os,I.bare,I.base,I.loc,I.cell,I.free,I.freeC,I.pin,I.hok,I.len⟩
theorem C6.unwish (I:C6 (X.wish E) pins σ H s):C6 X pins σ H s:=⟨I.ok.unwish,I.os,I.bare,I.base,I.loc,I.cell,I.free,I.freeC,I.pin,I.hok,I.len⟩
theorem SP.unwish {D:kJ}{f:Flow}{s':d7} (h:SP (X.wish E) pins D f s'):SP X pins D f s':=by
 cases f with
 | next=>obtain ⟨σ',H',I,q⟩:=h;exact ⟨σ',H',I.unwish,q⟩
 | brk=>obtain ⟨σ',H',I,q⟩:=h;exact ⟨σ',H',I.unwish,q⟩
 | cont=>obtain ⟨σ',H',I,q⟩:=h;exact ⟨σ',H',I.unwish,q⟩
 | ret u=>obtain ⟨v,σ',H',I,r,q⟩:=h;exact ⟨v,σ',H',I.unwish,r,q⟩
theorem pM.nox {st:List Stmt}{t:TS} (h:pM X.nox st t):pM X st t:=fun pins s σ H D I hw =>
 F0 (h pins s σ H D (I.wish _) hw) (fun _ _ q=>q.unwish) fun _ _ z=>E2 z
end
section
variable {X:Cx}{st:Stmt}{jw:List Stmt}{t u:TS}{e:Expr}{te:TE}{pos:Pos}
noncomputable def Jh:TS:=fun D σ H=>D.nx σ H
noncomputable def fk (t u:TS):TS:=fun D σ H=>t { D with nx:=u D } σ H
theorem F6:pM X [] Jh:=fun _ _ σ H _ I h=>bG ⟨σ,H,I,h⟩
theorem n5 (h1:PS X st t) (h2:pM X jw u):pM X (st::jw) (fk t u):=by
 intro pins s σ H D I h
 refine tq (Q9 (h1 pins s σ H { D with nx:=u D } I h) fun f s1 q=>?_)
 cases f with
 | next =>
  obtain ⟨σ',H',I',q⟩:=q
  exact h2 pins s1 σ' H' D I' q
 | ret v=>exact q
 | brk=>exact q
 | cont=>exact q
theorem v5 (h1:PS X st t):pM X [st] t:=by
 intro pins s σ H D I h
 refine tq (Q9 (h1 pins s σ H D I h) fun f s1 q=>?_)
 cases f with
 | next=>exact bG q
 | ret v=>exact q
 | brk=>exact q
 | cont=>exact q
theorem C6.quiet {pins:List (Addr × Obj)}{σ:St}{H:Hp}{s:d7} (I:C6 X pins σ H s):interactive X.env=false:=by simp[interactive,I.ok.kind]
noncomputable def Ji (te:TE):TS:=fun D σ H=>te σ H fun _ H1=>D.nx σ H1
theorem iJ (he:PE X e te) (hs:mz e none pos.line X.env=pure false:=by rfl):PS X (.Expr e pos) (Ji te):=by
 intro pins s σ H D I h
 exact wpAny_Expr_any (Q9 (he pins s σ H _ I h) fun v s1 ⟨x,H1,I1,r1,q1⟩=>⟨σ,H1,I1,q1⟩) I.quiet hs
noncomputable def Gk (te:TE):TS:=fun D σ H=>te σ H D.rt
theorem C7 (he:PE X e te):PS X (.Return (some e) pos) (Gk te):=by
 intro pins s σ H D I h
 exact wpAny_Return_some (Q9 (he pins s σ H _ I h) fun v s1 ⟨x,H1,I1,r1,q1⟩=>⟨x,σ,H1,I1,r1,q1⟩)
noncomputable def tIfS (c:TT) (t u:TS):TS:=fun D σ H=>c σ H fun b H1=>if b=true then t D σ H1 else u D σ H1
theorem R0 {c:Expr}{a b:List Stmt}{tc:TT} (hc:PT X c tc) (ha:pM X a t) (hb:pM X b u):PS X (.If c a b pos) (tIfS tc t u):=by
 intro pins s σ H D I h
 refine wpAny_If (Q9 (hc pins s σ H _ I h) fun d s1 ⟨H1,I1,q1⟩=>?_)
 cases d with
 | true=>exact ha pins s1 σ H1 D I1 q1
 | false=>exact hb pins s1 σ H1 D I1 q1
noncomputable def Gn:TS:=fun _ _ _=>False
theorem qj {sts:List Stmt}:pM X sts Gn:=fun _ _ _ _ _ _ h=>h.elim
end
noncomputable abbrev TG:=V->St->Hp->(St->Hp->Prop)->Prop
noncomputable abbrev FP:=List V->St->Hp->(St->Hp->Prop)->Prop
noncomputable def PG (X:Cx) (target:Expr) (t:TG):Prop :=
 ∀(pins:List (Addr × Obj)) (s:d7) (σ:St) (H:Hp) (v:V) (u:d6) (Q:St->Hp->Prop),C6 X pins σ H s->G8 v u->t v σ H Q ->
  r0 (y6 X.prog X.w) X.A (oY target X.env u) (fun _ s'=>∃σ' H',C6 X pins σ' H' s'/\Q σ' H') X.xe s
noncomputable def Kd (X:Cx) (ts:List Expr) (t:FP):Prop :=
 ∀(pins:List (Addr × Obj)) (s:d7) (σ:St) (H:Hp) (vs:List V) (us:List d6) (Q:St->Hp->Prop),C6 X pins σ H s->F2 vs us->t vs σ H Q ->
  r0 (y6 X.prog X.w) X.A (Aj ((dG ts X.env).map (·.2)) us) (fun _ s'=>∃σ' H',C6 X pins σ' H' s'/\Q σ' H') X.xe s
noncomputable abbrev Io:=V->V->V->Hp->(Hp->Prop)->Prop
noncomputable def Kc (X:Cx) (t:Io):Prop :=
 ∀(pins:List (Addr × Obj)) (s:d7) (σ:St) (H:Hp) (o i v:V) (ov iv u:d6) (Q:Hp->Prop),C6 X pins σ H s->G8 o ov->G8 i iv->G8 v u->t o i v H Q ->
  r0 (y6 X.prog X.w) X.A (setItem ov iv u) (fun _ s'=>∃H',C6 X pins σ H' s'/\Q H') X.xe s
section
variable {X:Cx}{pos:Pos}
noncomputable def N7 (i:Nat):TG:=fun v σ H Q=>Q (σ.set i (some v)) H
theorem U0 {i:Nat}{x:Str} (hN:X.N.Nodup) (hi:X.N[i]?=some x) (hx:Kh X.env.scope x) (hf:X.fn x=true ∨ X.env.scope.names.lookup x=some .local:=by first|exact .inl rfl|exact .inr rfl|assumption):PG X (.Name x pos) (N7 i):=by
 intro pins s σ H v u Q I r h
 exact Kz (eP I hN hi hx r (fun s' I'=>⟨_,H,I',h⟩) hf)
noncomputable def EN:FP:=fun vs σ H Q=>vs=[]/\Q σ H
noncomputable def oi (t:TG) (u:FP):FP:=fun vs σ H Q=>∃v r,vs=v::r/\t v σ H fun σ' H'=>u r σ' H' Q
theorem fH:Kd X [] EN:=by
 intro pins s σ H vs us Q I r h
 obtain ⟨e,h⟩:=h
 subst e
 cases r
 exact KB ⟨σ,H,I,h⟩
theorem S4 {e:Expr}{es:List Expr}{t:TG}{u:FP} (h1:PG X e t) (h2:Kd X es u)
  (hs:(dG (e::es) X.env).map (·.2)=oY e X.env::(dG es X.env).map (·.2):=by rfl):Kd X (e::es) (oi t u):=by
 intro pins s σ H vs us Q I r h
 obtain ⟨v,vr,e1,h⟩:=h
 subst e1
 cases r with
 | cons r rr =>
  rw[hs]
  refine oX (Q9 (h1 pins s σ H _ _ _ I r h) fun _ s1 ⟨σ1,H1,I1,q1⟩=>?_)
  exact h2 pins s1 σ1 H1 _ _ Q I1 rr q1
noncomputable def Cq (K:m9) (n:Nat) (t:FP):TG:=fun v σ H Q=>∃a xs,v=.ref a/\aQ K H a xs/\xs.length=n/\t xs σ H Q
theorem rW {es:List Expr}{k:Nat}{t:FP}{n:Nat} (hc:X.calm=true) (h:Kd X es t)
  (hn:(dG es X.env).length=n:=by rfl) (hst:(dG es X.env).findIdx? (·.1)=none:=by rfl):PG X (.Tuple es k pos) (Cq X.K n t):=by
 intro pins s σ H v u Q I r hw
 obtain ⟨a,xs,e1,hq,hl,hw⟩:=hw
 subst e1
 cases r
 obtain ⟨its,rv,ht,hz⟩:=I.tuple hq
 refine assign_Tuple_tuple (I.ok.hd hc) ht (by simp[hn,<- hl,rv.length]) hst fun h' hx=>?_
 have I1:C6 X pins σ H { s with heap:=h' }:=I.kept (t':=s.toks) fun b o e=>hx b o (w9 (m7 e)) e
 exact h pins _ σ H xs _ Q I1 (by simpa using rv) hw
noncomputable def gSub (to ti:TE) (t:Io):TG:=fun v σ H Q=>to σ H fun o H1=>ti σ H1 fun i H2=>t o i v H2 fun H3=>Q σ H3
theorem rX {o i:Expr}{to ti:TE}{t:Io} (ho:PE X o to) (hi:PE X i ti) (hs:Kc X t)
  (ha:∀v,oY (.Subscript o i pos) X.env v=(do
   let ov <- KA [v] (eval o X.env)
   let iv <- KA [v,ov] (eval i X.env)
   standAt pos
   KA [v,ov,iv] (setItem ov iv v)
   release [v,ov,iv] []):=by intro _;rfl):PG X (.Subscript o i pos) (gSub to ti t):=by
 intro pins s σ H v u Q I r h
 rw[ha]
 refine b8 (O5 (Q9 (ho pins s σ H _ I h) fun ov s1 ⟨x,H1,I1,r1,q1⟩=>?_))
 refine b8 (O5 (Q9 (hi pins s1 σ H1 _ I1 q1) fun iv s2 ⟨y,H2,I2,r2,q2⟩=>?_))
 refine b8 (iQ (b8 (O5 (Q9 (hs pins s2 σ H2 x y v ov iv u _ I2 r1 r2 r q2) fun _ s3 ⟨H3,I3,q3⟩=>?_))))
 exact wpAny_release ⟨σ,H3,I3,q3⟩
noncomputable def Eb (te:TE) (g:TG):TS:=fun D σ H=>te σ H fun x H1=>g x σ H1 D.nx
theorem kZ {tg e:Expr}{te:TE}{g:TG} (he:PE X e te) (hg:PG X tg g) (hs:swapsWithSole [tg] e pos.line X.env=pure false:=by rfl) (hw:Ag [tg] e X.env=pure none:=by rfl)
  (h1:(dG [tg] X.env).map (·.2)=[oY tg X.env]:=by rfl):PS X (.Assign [tg] e pos) (Eb te g):=by
 intro pins s σ H D I h
 refine wpAny_Assign_stores (Q9 (he pins s σ H _ I h) fun v s1 ⟨x,H1,I1,r1,q1⟩=>?_) hs hw
 rw[h1]
 exact Q9 (hg pins s1 σ H1 x v _ I1 r1 q1) fun _ s2 q=>q
theorem D6 {i:Nat}{x:Str}{e:Expr}{te:TE}{pos':Pos} (hN:X.N.Nodup) (hi:X.N[i]?=some x) (hx:Kh X.env.scope x) (he:PE X e te) (hs:mz e (some (.Name x pos')) pos.line X.env=pure false:=by rfl) (hf:X.fn x=true ∨ X.env.scope.names.lookup x=some .local:=by first|exact .inl rfl|exact .inr rfl|assumption):
  PS X (.Assign [.Name x pos'] e pos) (Eb te (N7 i)):=by
 intro pins s σ H D I h
 refine wpAny_Assign_Name (Q9 (he pins s σ H _ I h) fun v s1 ⟨y,H1,I1,r1,q1⟩=>?_) hs
 exact eP I1 hN hi hx r1 (fun s2 I2=>⟨_,H1,I2,q1⟩) hf
noncomputable def tPar (i j:Nat) (ta:TA):TS:=fun D σ H=>ta σ H fun vs H1=>∃v w,vs=[v,w]/\D.nx ((σ.set i (some v)).set j (some w)) H1
theorem rR {i j:Nat}{x y:Str}{a b:Expr}{ta:TA}{px py pt:Pos}{kt k2 pt2} (hc:X.calm=true) (hN:X.N.Nodup) (hi:X.N[i]?=some x) (hj:X.N[j]?=some y) (hij:i≠j)
  (hx:X.env.scope.names.lookup x=some .local) (hy:X.env.scope.names.lookup y=some .local) (ha:PA X [a,b] ta)
  (hw:Ag [.Tuple [.Name x px,.Name y py] kt pt] (.Tuple [a,b] k2 pt2) X.env=pure (some [x,y]))
  (hs:swapsWithSole [.Tuple [.Name x px,.Name y py] kt pt] (.Tuple [a,b] k2 pt2) pos.line X.env=pure false:=by rfl):
  PS X (.Assign [.Tuple [.Name x px,.Name y py] kt pt] (.Tuple [a,b] k2 pt2) pos) (tPar i j ta):=by
 intro pins s σ H D I h
 rw[exec_Assign_arm]
 refine b8 (iQ ?_)
 rw[hs]
 refine b8 (i8 ?_)
 rw[if_neg (by decide)]
 refine b8 (Tuple_ (Q9 (ha _ pins s σ H _ I h) fun us s1 ⟨vs,H1,I1,r1,q1⟩=>?_))
 obtain ⟨v,w,e1,q1⟩:=q1
 subst e1
 obtain ⟨u1,u2,rfl,rv,rw'⟩:∃u1 u2,us=[u1,u2]/\G8 v u1/\G8 w u2:=by
  cases r1 with
  | cons p q =>
   cases q with
   | cons p' q' =>
    cases q'
    exact ⟨_,_,rfl,p,p'⟩
 refine C9 ?_ (by show 2<=i7;decide)
 have I2:C6 X pins σ H1 { s1 with heap:=s1.heap.push { cls:=.type "tuple",data:=.seq [u1,u2].toArray } }:=I1.kept (t':=s1.toks) fun b o e=>f9 _ e
 rw[hw]
 refine b8 (i8 ?_)
 show r0 (y6 X.prog X.w) X.A (do rule "assign.swapped-stores";let items <- unpackItems (.ref s1.heap.objs.size) 2 none;Aj [fun v=>yO X.env y v,fun v=>yO X.env x v] items.reverse;pure Flow.next) _ _ _
 refine b8 (gr (b8 (unpackItems_tuple (items:=#[u1,u2]) (I.ok.hd hc) (cu s1.heap _) fun h' hx'=>?_)))
 have I3:=I2.kept (h':=h') (t':=s1.toks) fun b o e=>hx' b o (w9 (m7 e)) e
 show r0 _ _ (Aj [fun v=>yO X.env y v,fun v=>yO X.env x v] [u2,u1] >>= fun _=>pure Flow.next) _ _ _
 refine b8 (oX (yL (eP I3 hN hj (.inl hy) rw' (fun s2 I4=>?_) (.inr hy))))
 refine oX (yL (eP I4 hN hi (.inl hx) rv (fun s3 I5=>KB (i8 ?_)) (.inr hx)))
 rw[List.set_comm _ _ (M3 hij)] at I5
 exact ⟨_,H1,I5,q1⟩
noncomputable def Gj (c:TT) (tb:TS):TS:=fun D σ H=>∃W:Nat->St->Hp->Prop,(∃m,W m σ H)/\∀m σ H,W m σ H ->
 c σ H fun b H1=>if b=true then ∃N:St->Hp->Prop,(∀σ' H',N σ' H'->∃m',m'<m/\W m' σ' H')/\tb { D with nx:=N,ct:=N,bk:=D.nx } σ H1 else D.nx σ H1
theorem uc {c:Expr}{body:List Stmt}{tc:TT}{tb:TS} (hp:PassesOwn (y6 X.prog X.w) X.A X.env X.xe) (hc:PT X c tc) (hb:pM X body tb):PS X (.While c body [] pos) (Gj tc tb):=by
 intro pins s σ H D I h
 obtain ⟨W,⟨m0,w0⟩,turn⟩:=h
 refine wpAny_While (codeAny_whileLoop (fun n s'=>∃σ' H',C6 X pins σ' H' s'/\W n σ' H') ?_ m0 ⟨σ,H,I,w0⟩)
 rintro n s1 ⟨σ1,H1,I1,w1⟩
 refine Z8 hp (Q9 (hc pins s1 σ1 H1 _ I1 (turn n σ1 H1 w1)) fun b s2 ⟨H2,I2,q2⟩=>?_)
 cases b with
 | true =>
  obtain ⟨N,hN,q2⟩:=q2
  rw[if_pos rfl]
  refine Z8 hp (Q9 (hb pins s2 σ1 H2 _ I2 q2) fun f s3 q3=>?_)
  cases f with
  | next =>
   obtain ⟨σ3,H3,I3,n3⟩:=q3
   obtain ⟨m',hm,w3⟩:=hN σ3 H3 n3
   exact ⟨m',hm,σ3,H3,I3,w3⟩
  | cont =>
   obtain ⟨σ3,H3,I3,n3⟩:=q3
   obtain ⟨m',hm,w3⟩:=hN σ3 H3 n3
   exact ⟨m',hm,σ3,H3,I3,w3⟩
  | brk=>exact q3
  | ret v=>exact q3
 | false =>
  rw[if_neg A3]
  exact bG ⟨σ1,H2,I2,q2⟩
end
structure It where
 go:Nat->Hp->Prop
 yld:Nat->Hp->V->Hp->Prop
 stop:Nat->Hp->Prop
noncomputable def mw (X:Cx) (pins:List (Addr × Obj)) (H:Hp) (b:Addr):Prop :=
 H b=none/\b≠X.env.locals/\b ∉ X.fs/\(b∈X.ex ∨ X.s₀.heap.objs.size<=b)/\(∀x c,X.env.cells.lookup x=some c->c≠b)/\∀p∈X.pn++pins,p.1≠b
variable {σ:St}
theorem C6.fpOk {pins:List (Addr × Obj)}{H':Hp}(I:C6 X pins σ H s) (hb:s.heap.objs.size<=b) (hn:H' b=none):mw X pins H' b:=by
 refine ⟨hn,G6 (B4 I.lt hb),I.nofs hb,.inr (m8 I.sz hb),fun x c e z=>?_,fun p hp z=>?_⟩
 ·obtain ⟨v,q⟩:=I.cell x c e
  exact absurd (B4 q.lt (by rw[z];exact hb)) (O2 _)
 ·exact absurd (B4 (m7 (I.pin p hp).1) (by rw[z];exact hb)) (O2 _)
structure vi (P:j9) (w:t9) (K:m9) (tg:Expr) (J:It) (fp:List Addr) (it:Addr) (tn:Nat->Heap->Prop):Prop where
 mem:it∈fp
 obj:∀i h,tn i h->∀b∈fp,∃o,h.get? b=some o/\∀v,o.data≠.cell v
 keep:∀i h h',tn i h->(∀b∈fp,∀o,h.get? b=some o->h'.get? b=some o)->tn i h'
 item:∀(X:Cx),X.prog=P->X.w=w->X.K=K->X.calm=true->∀(i:Nat) (pins:List (Addr × Obj)) (s:d7) (σ:St) (H:Hp) (E:d6->d7->Prop),C6 X pins σ H s->(∀b∈fp,mw X pins H b)->tn i s.heap->J.go i H ->
  r0 (y6 P w) X.A (jI (.ref it)) (fun r s1=>∃u,r=some u /\
   r0 (y6 P w) X.A (kL tg (.ref it) u) (fun _ s2=>∃x H',C6 X pins σ H' s2/\G8 x u/\J.yld i H x H'/\tn (i+1) s2.heap/\∀b∈fp,H' b=none) E s1) E s
 done:∀(X:Cx),X.prog=P->X.w=w->X.K=K->X.calm=true->∀(i:Nat) (pins:List (Addr × Obj)) (s:d7) (σ:St) (H:Hp) (E:d6->d7->Prop),C6 X pins σ H s->(∀b∈fp,mw X pins H b)->tn i s.heap->J.stop i H ->
  r0 (y6 P w) X.A (jI (.ref it)) (fun r s1=>r=none/\C6 X pins σ H s1) E s
 self:∀(A:v7) (i:Nat) (s:d7) (Q:d6->d7->Prop) (E:d6->d7->Prop),tn i s.heap->Q (.ref it) s->r0 (y6 P w) A (oW (.ref it)) Q E s
noncomputable abbrev TI:=St->Hp->(It->Hp->Prop)->Prop
noncomputable def KM (X:Cx) (pins:List (Addr × Obj)) (σ:St) (tg:Expr) (R:It->Hp->Prop) (itv:d6) (s2:d7):Prop :=
 ∃(it:Addr) (fp:List Addr) (tn:Nat->Heap->Prop) (J:It) (H':Hp),itv=.ref it/\C6 X pins σ H' s2/\vi X.prog X.w X.K tg J fp it tn/\tn 0 s2.heap/\(∀b∈fp,mw X pins H' b)/\R J H'
noncomputable def PI (X:Cx) (tg iter:Expr) (wi:TI):Prop :=
 ∀(pins:List (Addr × Obj)) (s:d7) (σ:St) (H:Hp) (R:It->Hp->Prop),C6 X pins σ H s->wi σ H R ->
  r0 (y6 X.prog X.w) X.A (eval iter X.env) (fun v s1=>r0 (y6 X.prog X.w) X.A (oW v) (KM X pins σ tg R) X.xe s1) X.xe s
variable {tg:Expr}
theorem Co {M:oP}{it:Addr}{o:Obj}{n:String}{vs:Array d6}{Q:Unit->d7->Prop} (ho:s.heap.get? it=some o) (hc:o.cls=.type n) (hd:o.data=.fields vs)
  (hn:["enumerate","zip","dict_itemiterator","dict_reverseitemiterator","odict_iterator","itertools.zip_longest","itertools.pairwise"].contains n=false) (hQ:Q () s):r0 M A (kL tg (.ref it) u) Q E s:=by
 unfold kL
 cases tg <;> first
  | exact i8 hQ
  | (cases u <;> first
    | exact i8 hQ
    | (refine b8 (wpAny_load ho ?_)
       rw[hc,hd]
       show r0 M A (if (["enumerate","zip","dict_itemiterator","dict_reverseitemiterator","odict_iterator","itertools.zip_longest","itertools.pairwise"].contains n&&vs[0]? == some (bQ _))=true then _ else _) Q E s
       rw[if_neg (by intro h;rw[hn,F8] at h;cases h)]
       exact i8 hQ))
noncomputable def IM (K:m9) (a:Addr):It :=
 ⟨fun i H=>∃xs x,dC K H a xs/\xs[i]?=some x,fun i H x H'=>H'=H/\∀xs,dC K H a xs->xs[i]?=some x,fun i H=>∃xs,dC K H a xs/\xs.length<=i⟩
noncomputable def IL (K:m9) (a:Addr):It :=
 ⟨fun i H=>∃xs x,aQ K H a xs/\xs[i]?=some x,fun i H x H'=>H'=H/\∀xs,aQ K H a xs->xs[i]?=some x,fun i H=>∃xs,aQ K H a xs/\xs.length<=i⟩
noncomputable def Iq (lo:Int) (n:Nat):It:=⟨fun i _=>i<n,fun i H x H'=>H'=H/\x=.int (lo+i),fun i _=>n<=i⟩
variable {K:m9}
theorem yZ (a it:Addr):vi P w K tg (IM K a) [it] it (fun i h=>h.IsListIter it a i) where
 mem:=by simp
 obj:=fun i h st b hb=>by
  have e:b=it:=by simpa using hb
  subst e
  obtain ⟨o,e,c,d⟩:=st
  exact ⟨o,e,fun v z=>by rw[d] at z;cases z⟩
 keep:=fun i h h' st k=>st.at fun o e=>k it (by simp) o e
 item:=by
  intro X hP hw hK hc i pins s σ H E I hf st hg
  subst hP hw hK
  obtain ⟨xs,x,hq,hx⟩:=hg
  obtain ⟨its,rv,p,hz⟩:=I.list hq
  obtain ⟨u,hu,ru⟩:=rv.get hx
  obtain ⟨f0,f1,f2,f3,f4,f5⟩:=hf it (by simp)
  refine wpAny_pyNext_list_item st p.isList (x:=u) (by simpa using hu) fun h' st' sb=>?_
  have I1:C6 X pins σ H { s with heap:=h' }:=I.turned (t':=s.toks) (fun b o hb e=>(sb.2 b hb).trans e) f0 f1 f3 f4 f5
  obtain ⟨o,e,c,d⟩:=id st'
  exact ⟨u,rfl,Co (s:={ s with heap:=h' }) e c d (by decide) ⟨x,H,I1,ru,⟨rfl,fun ys hy=>by rw[I.list_inj hy hq];exact hx⟩,st',fun b hb=>(hf b hb).1⟩⟩
 done:=by
  intro X hP hw hK hc i pins s σ H E I hf st hg
  subst hP hw hK
  obtain ⟨xs,hq,hx⟩:=hg
  obtain ⟨its,rv,p,hz⟩:=I.list hq
  obtain ⟨f0,f1,f2,f3,f4,f5⟩:=hf it (by simp)
  have hl:=rv.length
  exact wpAny_pyNext_list_end (I.ok.hd hc) st p.isList (by simp;lia) fun h' eb=>⟨rfl,I.turned (t':=s.toks) (fun b o hb e=>eb b o hb e) f0 f1 f3 f4 f5⟩
 self:=fun _ _ _ _ _ st h=>wpAny_pyIter_listiter st h
theorem vP (a it:Addr):vi P w K tg (IL K a) [it] it (fun i h=>h.IsTupleIter it a i) where
 mem:=by simp
 obj:=fun i h st b hb=>by
  have e:b=it:=by simpa using hb
  subst e
  obtain ⟨o,e,c,d⟩:=st
  exact ⟨o,e,fun v z=>by rw[d] at z;cases z⟩
 keep:=fun i h h' st k=>st.at fun o e=>k it (by simp) o e
 item:=by
  intro X hP hw hK hc i pins s σ H E I hf st hg
  subst hP hw hK
  obtain ⟨xs,x,hq,hx⟩:=hg
  obtain ⟨its,rv,p,hz⟩:=I.tuple hq
  obtain ⟨u,hu,ru⟩:=rv.get hx
  obtain ⟨f0,f1,f2,f3,f4,f5⟩:=hf it (by simp)
  refine wpAny_pyNext_tuple_item st (show s.heap.IsTuple a its.toArray from p) (x:=u) (by simpa using hu) fun h' st' sb=>?_
  have I1:C6 X pins σ H { s with heap:=h' }:=I.turned (t':=s.toks) (fun b o hb e=>(sb.2 b hb).trans e) f0 f1 f3 f4 f5
  obtain ⟨o,e,c,d⟩:=id st'
  exact ⟨u,rfl,Co (s:={ s with heap:=h' }) e c d (by decide) ⟨x,H,I1,ru,⟨rfl,fun ys hy=>by rw[I.tuple_inj hy hq];exact hx⟩,st',fun b hb=>(hf b hb).1⟩⟩
 done:=by
  intro X hP hw hK hc i pins s σ H E I hf st hg
  subst hP hw hK
  obtain ⟨xs,hq,hx⟩:=hg
  obtain ⟨its,rv,p,hz⟩:=I.tuple hq
  obtain ⟨f0,f1,f2,f3,f4,f5⟩:=hf it (by simp)
  have hl:=rv.length
  exact wpAny_pyNext_tuple_end (I.ok.hd hc) st (show s.heap.IsTuple a its.toArray from p) (by simp;lia) fun h' eb=>⟨rfl,I.turned (t':=s.toks) (fun b o hb e=>eb b o hb e) f0 f1 f3 f4 f5⟩
 self:=fun _ _ _ _ _ st h=>wpAny_pyIter_tupleiter st h
theorem vQ (it:Addr) (lo:Int) (n:Nat):vi P w K tg (Iq lo n) [it] it (fun i h=>IsRangeIter h it (lo+(i:Nat)*1) ((n:Int) - (i:Nat)) 1) where
 mem:=by simp
 obj:=fun i h st b hb=>by
  have e:b=it:=by simpa using hb
  subst e
  exact ⟨_,st,fun v z=>by
   have z':Data.fields _=Data.cell v:=z
   cases z'⟩
 keep:=fun i h h' st k=>k it (by simp) _ st
 item:=by
  intro X hP hw hK hc i pins s σ H E I hf st hg
  subst hP hw hK
  obtain ⟨f0,f1,f2,f3,f4,f5⟩:=hf it (by simp)
  have W:=Walks.range (prog:=X.prog) (w:=X.w) (I.ok.hd hc) it lo 1 n
  refine W.item i s _ _ hg st fun v h' tk hv st' kk=>?_
  obtain ⟨t,rfl⟩:=hv
  have I1:C6 X pins σ H { s with heap:=h',toks:=tk }:=I.turned (fun b o hb e=>kk b o (by simpa using hb) e) f0 f1 f3 f4 f5
  refine ⟨_,rfl,Co (s:={ s with heap:=h',toks:=tk }) (n:="range_iterator") st' rfl rfl (by decide) ⟨.int (lo+i),H,I1,⟨t,?_⟩,⟨rfl,rfl⟩,st',fun b hb=>(hf b hb).1⟩⟩
  rw[Int.mul_one]
 done:=by
  intro X hP hw hK hc i pins s σ H E I hf st hg
  subst hP hw hK
  obtain ⟨f0,f1,f2,f3,f4,f5⟩:=hf it (by simp)
  exact wpAny_pyNext_range_end (I.ok.hd hc) st (by have:n<=i:=hg;lia) fun h' eb=>⟨rfl,I.turned (t':=s.toks) (fun b o hb e=>eb b o hb e) f0 f1 f3 f4 f5⟩
 self:=fun _ _ _ _ _ st h=>wpAny_pyIter_rangeiter st h
section
variable {X:Cx}{tg:Expr}
noncomputable def JT (K:m9) (tl:TE):TI:=fun σ H R=>tl σ H fun x H1=>∃a,x=.ref a/\(∃xs,dC K H1 a xs)/\R (IM K a) H1
noncomputable def iTup (K:m9) (tl:TE):TI:=fun σ H R=>tl σ H fun x H1=>∃a,x=.ref a/\(∃xs,aQ K H1 a xs)/\R (IL K a) H1
theorem jV {l:Expr}{tl:TE} (hl:PE X l tl):PI X tg l (JT X.K tl):=by
 intro pins s σ H R I h
 refine Q9 (hl pins s σ H _ I h) fun v s1 ⟨x,H1,I1,r1,q1⟩=>?_
 obtain ⟨a,e,⟨xs,hq⟩,q⟩:=q1
 subst e
 cases r1
 obtain ⟨its,rv,p,hz⟩:=I1.list hq
 refine qO p.isList ?_
 refine ⟨s1.heap.objs.size,[s1.heap.objs.size],_,_,H1,rfl,I1.kept (t':=s1.toks) fun b o e=>f9 _ e,yZ a _,⟨_,q9 _ rfl,rfl,rfl⟩,fun b hb=>?_,q⟩
 have e:b=s1.heap.objs.size:=by simpa using hb
 subst e
 exact I1.fpOk (i9 _) (I1.hok.fresh (i9 _))
theorem jx {l:Expr}{tl:TE} (hl:PE X l tl):PI X tg l (iTup X.K tl):=by
 intro pins s σ H R I h
 refine Q9 (hl pins s σ H _ I h) fun v s1 ⟨x,H1,I1,r1,q1⟩=>?_
 obtain ⟨a,e,⟨xs,hq⟩,q⟩:=q1
 subst e
 cases r1
 obtain ⟨its,rv,p,hz⟩:=I1.tuple hq
 refine oS (show s1.heap.IsTuple a its.toArray from p) ?_
 refine ⟨s1.heap.objs.size,[s1.heap.objs.size],_,_,H1,rfl,I1.kept (t':=s1.toks) fun b o e=>f9 _ e,vP a _,⟨_,q9 _ rfl,rfl,rfl⟩,fun b hb=>?_,q⟩
 have e:b=s1.heap.objs.size:=by simpa using hb
 subst e
 exact I1.fpOk (i9 _) (I1.hok.fresh (i9 _))
variable {pins:List (Addr × Obj)}{σ:St}{H:Hp}{s:d7}
theorem Bh {R:It->Hp->Prop}{E:d6->d7->Prop}{lo hi:Int}{t u v:Tok}{tk:Nat} (I:C6 X pins σ H s) (h1:-(2 ^ 62)<=lo) (h2:lo<2 ^ 62) (h3:-(2 ^ 62)<=hi) (h4:hi<2 ^ 62)
  (q:R (Iq lo (hi - lo).toNat) H):r0 (y6 X.prog X.w) X.A (oW (.ref s.heap.objs.size)) (KM X pins σ tg R) E { s with heap:=s.heap.push { cls:=.type "range",data:=.fields #[.int lo t,.int hi u,.int 1 v] },toks:=tk }:=by
 refine wpAny_pyIter_range (IsRange.new ..) (small_one h1 h2 h3 h4) ?_
 have I1:C6 X pins σ H { s with heap:=s.heap.push { cls:=.type "range",data:=.fields #[.int lo t,.int hi u,.int 1 v] },toks:=tk }:=I.kept fun b o e=>f9 _ e
 refine ⟨(s.heap.push { cls:=.type "range",data:=.fields #[.int lo t,.int hi u,.int 1 v] }).objs.size,[(s.heap.push { cls:=.type "range",data:=.fields #[.int lo t,.int hi u,.int 1 v] }).objs.size],_,_,H,rfl,
  I1.kept (t':=tk) fun b o e=>f9 _ e,vQ _ lo (hi - lo).toNat,?_,fun b hb=>?_,q⟩
 ·have e1:lo+((0:Nat):Int)*1=lo:=by simp
  have e2:(((hi - lo).toNat:Nat):Int) - ((0:Nat):Int)=Builtin.Range.rangeSize lo hi 1:=by rw[rangeSize_one];split <;> lia
  show IsRangeIter _ _ (lo+((0:Nat):Int)*1) ((((hi - lo).toNat:Nat):Int) - ((0:Nat):Int)) 1
  rw[e1,e2]
  exact q9 _ rfl
 ·have e:b=(s.heap.push { cls:=.type "range",data:=.fields #[.int lo t,.int hi u,.int 1 v] }).objs.size:=by simpa using hb
  subst e
  exact I1.fpOk (i9 _) (I1.hok.fresh (i9 _))
noncomputable def JS (ta:TA):TI:=fun σ H R=>ta σ H fun vs H1=>∃j:Int,vs=[.int j]/\-(2 ^ 62)<=j/\j<2 ^ 62/\R (Iq 0 j.toNat) H1
theorem K3 {a:Expr}{ta:TA}{p pos:Pos} (hg:Gl X "range") (hm:X.mg "range"=none) (ha:PA X [a] ta) (hs:w6 [a] X.env=[(false,eval a X.env)]:=by rfl):PI X tg (.Call (.Name "range" p) [a] [] pos) (JS ta):=by
 intro pins s σ H R I h
 refine Call_ (lu I hg hm boot_range (cm (Q9 (ha pos pins s σ H _ I h) fun us s1 ⟨vs,H1,I1,r1,q1⟩=>?_) hs rfl))
 obtain ⟨j,e,q1,q2,q⟩:=q1
 subst e
 cases r1 with
 | cons r rr =>
  cases rr
  obtain ⟨t,rfl⟩:=r
  exact call_range_1 (Bh I1 (by lia) (by lia) q1 q2 (by simpa using q))
noncomputable def tFor (wi:TI) (g:TG) (tb:TS):TS:=fun D σ H=>wi σ H fun J H1=>∃W:Nat->Nat->St->Hp->Prop,(∃m,W 0 m σ H1)/\∀i m σ H,W i m σ H ->
 (J.stop i H/\D.nx σ H) ∨ (J.go i H/\∃N:St->Hp->Prop,(∀σ' H',N σ' H'->∃m',m'<m/\W (i+1) m' σ' H')/\∀x H',J.yld i H x H'->g x σ H' fun σ2 H2=>tb { D with nx:=N,ct:=N,bk:=D.nx } σ2 H2)
noncomputable def rT (fp:List Addr) (h:Heap):List (Addr × Obj):=fp.filterMap fun b=>(h.get? b).map fun o=>(b,o)
variable {fp:List Addr}
theorem bE {h:Heap}{b:Addr}{o:Obj} (hb:b∈fp) (e:h.get? b=some o):(b,o)∈rT fp h:=List.mem_filterMap.mpr ⟨b,hb,by rw[e];rfl⟩
theorem zm {h:Heap}{p:Addr × Obj} (hp:p∈rT fp h):p.1∈fp/\h.get? p.1=some p.2:=by
 obtain ⟨b,hb,e⟩:=List.mem_filterMap.mp hp
 cases q:h.get? b with
 | none=>rw[q] at e;cases e
 | some o =>
  rw[q] at e
  have e':(b,o)=p:=D1 e
  subst e'
  exact ⟨hb,q⟩
theorem C6.pinned (I:C6 X pins σ H s) (hf:∀b∈fp,mw X pins H b) (ho:∀b∈fp,∃o,s.heap.get? b=some o/\∀v,o.data≠.cell v):C6 X (pins++rT fp s.heap) σ H s :=
 I.pins_of fun p hp=>(List.mem_append.mp hp).elim (fun z=>I.pin p (y7 _ z)) fun z=>by
  obtain ⟨hb,e⟩:=zm z
  obtain ⟨f0,f1,f2,_⟩:=hf p.1 hb
  obtain ⟨o,e',d⟩:=ho p.1 hb
  rw[e] at e';cases e'
  exact ⟨e,f0,f1,f2,d⟩
theorem C6.unpinned {pl:List (Addr × Obj)}(I:C6 X (pins++pl) σ H s):C6 X pins σ H s:=I.pins_of fun p hp=>I.pin p (y7 _ (T9 _ hp))
theorem eh {iter:Expr}{body:List Stmt}{wi:TI}{g:TG}{tb:TS}{pos:Pos} (hp:PassesOwn (y6 X.prog X.w) X.A X.env X.xe) (hc:X.calm=true) (hi:PI X tg iter wi) (hg:PG X tg g) (hb:pM X body tb)
  (hs:∀x,qT iter X.env x=pure x:=by intro _;rfl):PS X (.For tg iter body [] pos) (tFor wi g tb):=by
 intro pins s σ H D I h
 refine wpAny_For (Q9 (hi pins s σ H _ I h) fun v s1 h1=>Q9 h1 fun itv s2 h2=>?_) hs
 obtain ⟨it,fp,tn,J,H2,e,I2,T,st2,f2,W,⟨m0,w0⟩,turn⟩:=h2
 subst e
 have stat:∀{H':Hp},(∀b∈fp,H' b=none)->∀b∈fp,mw X pins H' b:=fun hn b hb=>⟨hn b hb,(f2 b hb).2⟩
 refine codeAny_forLoop_any (fun n s'=>∃i σ' H',C6 X pins σ' H' s'/\tn i s'.heap/\(∀b∈fp,H' b=none)/\W i n σ' H') ?_ m0 ⟨0,σ,H2,I2,st2,fun b hb=>(f2 b hb).1,w0⟩
 rintro n s3 ⟨i,σ3,H3,I3,st3,fr3,w3⟩
 rcases turn i n σ3 H3 w3 with ⟨stop,qn⟩|⟨go,N,hN,step⟩
 ·refine Z8 hp (Q9 (T.done X rfl rfl rfl hc i pins s3 σ3 H3 X.xe I3 (stat fr3) st3 stop) fun r s4 ⟨hr,I4⟩=>?_)
  subst hr
  exact bG ⟨σ3,H3,I4,qn⟩
 ·refine Z8 hp (Q9 (T.item X rfl rfl rfl hc i pins s3 σ3 H3 X.xe I3 (stat fr3) st3 go) fun r s4 ⟨u,hr,h4⟩=>?_)
  subst hr
  refine Z8 hp (Q9 h4 fun _ s5 ⟨x,H5,I5,r5,y5,st5,fr5⟩=>?_)
  have I5':=I5.pinned (stat fr5) (T.obj _ _ st5)
  refine Z8 hp (Q9 (hg _ s5 σ3 H5 x u _ I5' r5 (step x H5 y5)) fun _ s6 ⟨σ6,H6,I6,q6⟩=>?_)
  refine Z8 hp (Q9 (hb _ s6 σ6 H6 _ I6 q6) fun f s7 q7=>?_)
  have again:∀{σ7:St}{H7:Hp},C6 X (pins++rT fp s5.heap) σ7 H7 s7->N σ7 H7->∃m,m<n/\∃i σ' H',C6 X pins σ' H' s7/\tn i s7.heap/\(∀b∈fp,H' b=none)/\W i m σ' H':=fun {σ7 H7} I7 n7=>by
   obtain ⟨m',hm,w7⟩:=hN σ7 H7 n7
   refine ⟨m',hm,i+1,σ7,H7,I7.unpinned,T.keep _ _ _ st5 fun b hb o e=>(I7.pin (b,o) (y7 _ (y7 _ (bE hb e)))).1,fun b hb=>?_,w7⟩
   obtain ⟨o,e,d⟩:=T.obj _ _ st5 b hb
   exact (I7.pin (b,o) (y7 _ (y7 _ (bE hb e)))).2.1
  cases f with
  | next=>obtain ⟨σ7,H7,I7,n7⟩:=q7;exact again I7 n7
  | cont=>obtain ⟨σ7,H7,I7,n7⟩:=q7;exact again I7 n7
  | brk=>obtain ⟨σ7,H7,I7,q7⟩:=q7;exact ⟨σ7,H7,I7.unpinned,q7⟩
  | ret v=>obtain ⟨x7,σ7,H7,I7,r7,q7⟩:=q7;exact ⟨x7,σ7,H7,I7.unpinned,r7,q7⟩
end
variable {g:TG}{tb:TS}{D:kJ}
theorem oj {xs:List V}(Pv:Nat->St->Hp->Prop) (h0:Pv 0 σ H) (hl:∀i σ H,i<=xs.length->Pv i σ H->dC K H a xs)
  (hs:∀i x σ H,xs[i]?=some x->Pv i σ H->g x σ H fun σ2 H2=>tb { D with nx:=Pv (i+1),ct:=Pv (i+1),bk:=D.nx } σ2 H2) (hd:∀σ H,Pv xs.length σ H->D.nx σ H):
  ∃W:Nat->Nat->St->Hp->Prop,(∃m,W 0 m σ H)/\∀i m σ H,W i m σ H ->
   ((IM K a).stop i H/\D.nx σ H) ∨ ((IM K a).go i H/\∃N:St->Hp->Prop,(∀σ' H',N σ' H'->∃m',m'<m/\W (i+1) m' σ' H')/\∀x H',(IM K a).yld i H x H'->g x σ H' fun σ2 H2=>tb { D with nx:=N,ct:=N,bk:=D.nx } σ2 H2):=by
 refine ⟨fun i m σ H=>m=xs.length - i/\i<=xs.length/\Pv i σ H,⟨xs.length,by simp,u9 _,h0⟩,?_⟩
 rintro i m σ H ⟨rfl,hi,p⟩
 have q:=hl i σ H hi p
 by_cases hlt:i<xs.length
 ·refine .inr ⟨⟨xs,xs[i],q,by simp[hlt]⟩,Pv (i+1),fun σ' H' p'=>⟨xs.length - (i+1),by lia,rfl,hlt,p'⟩,fun x H' y=>?_⟩
  obtain ⟨e,y⟩:=y
  subst e
  exact hs i x σ _ (y xs q) p
 ·have e:i=xs.length:=by lia
  subst e
  exact .inl ⟨⟨xs,q,i9 _⟩,hd σ H p⟩
theorem yl {xs:List V}(Pv:Nat->St->Hp->Prop) (h0:Pv 0 σ H) (hl:∀i σ H,i<=xs.length->Pv i σ H->aQ K H a xs)
  (hs:∀i x σ H,xs[i]?=some x->Pv i σ H->g x σ H fun σ2 H2=>tb { D with nx:=Pv (i+1),ct:=Pv (i+1),bk:=D.nx } σ2 H2) (hd:∀σ H,Pv xs.length σ H->D.nx σ H):
  ∃W:Nat->Nat->St->Hp->Prop,(∃m,W 0 m σ H)/\∀i m σ H,W i m σ H ->
   ((IL K a).stop i H/\D.nx σ H) ∨ ((IL K a).go i H/\∃N:St->Hp->Prop,(∀σ' H',N σ' H'->∃m',m'<m/\W (i+1) m' σ' H')/\∀x H',(IL K a).yld i H x H'->g x σ H' fun σ2 H2=>tb { D with nx:=N,ct:=N,bk:=D.nx } σ2 H2):=by
 refine ⟨fun i m σ H=>m=xs.length - i/\i<=xs.length/\Pv i σ H,⟨xs.length,by simp,u9 _,h0⟩,?_⟩
 rintro i m σ H ⟨rfl,hi,p⟩
 have q:=hl i σ H hi p
 by_cases hlt:i<xs.length
 ·refine .inr ⟨⟨xs,xs[i],q,by simp[hlt]⟩,Pv (i+1),fun σ' H' p'=>⟨xs.length - (i+1),by lia,rfl,hlt,p'⟩,fun x H' y=>?_⟩
  obtain ⟨e,y⟩:=y
  subst e
  exact hs i x σ _ (y xs q) p
 ·have e:i=xs.length:=by lia
  subst e
  exact .inl ⟨⟨xs,q,i9 _⟩,hd σ H p⟩
theorem iP {lo:Int}{n:Nat}(Pv:Nat->St->Hp->Prop) (h0:Pv 0 σ H)
  (hs:∀i σ H,i<n->Pv i σ H->g (.int (lo+i)) σ H fun σ2 H2=>tb { D with nx:=Pv (i+1),ct:=Pv (i+1),bk:=D.nx } σ2 H2) (hd:∀σ H,Pv n σ H->D.nx σ H):
  ∃W:Nat->Nat->St->Hp->Prop,(∃m,W 0 m σ H)/\∀i m σ H,W i m σ H ->
   ((Iq lo n).stop i H/\D.nx σ H) ∨ ((Iq lo n).go i H/\∃N:St->Hp->Prop,(∀σ' H',N σ' H'->∃m',m'<m/\W (i+1) m' σ' H')/\∀x H',(Iq lo n).yld i H x H'->g x σ H' fun σ2 H2=>tb { D with nx:=N,ct:=N,bk:=D.nx } σ2 H2):=by
 refine ⟨fun i m σ H=>m=n - i/\i<=n/\Pv i σ H,⟨n,by simp,u9 _,h0⟩,?_⟩
 rintro i m σ H ⟨rfl,hi,p⟩
 by_cases hlt:i<n
 ·refine .inr ⟨hlt,Pv (i+1),fun σ' H' p'=>⟨n - (i+1),by lia,rfl,hlt,p'⟩,fun x H' y=>?_⟩
  obtain ⟨e,y⟩:=y
  subst e y
  exact hs i σ _ hlt p
 ·have e:i=n:=by lia
  subst e
  exact .inl ⟨i9 _,hd σ H p⟩
noncomputable abbrev R2:=V->V->Hp->VK->Prop
noncomputable def gK (X:Cx) (f:d6->d6->Sem d6) (r:R2):Prop :=
 ∀(pins:List (Addr × Obj)) (s:d7) (σ:St) (H:Hp) (x y:V) (v u:d6) (Q:VK),C6 X pins σ H s->G8 x v->G8 y u->r x y H Q ->
  r0 (y6 X.prog X.w) X.A (f v u) (EP X pins σ Q) X.xe s
noncomputable def UnR (X:Cx) (f:d6->Sem d6) (r:V->Hp->VK->Prop):Prop :=
 ∀(pins:List (Addr × Obj)) (s:d7) (σ:St) (H:Hp) (x:V) (v:d6) (Q:VK),C6 X pins σ H s->G8 x v->r x H Q ->
  r0 (y6 X.prog X.w) X.A (f v) (EP X pins σ Q) X.xe s
noncomputable def bp (X:Cx) (f:d6) (r:List V->Hp->VK->Prop):Prop :=
 ∀(pins:List (Addr × Obj)) (s:d7) (σ:St) (H:Hp) (xs:List V) (us:List d6) (Q:VK),C6 X pins σ H s->F2 xs us->r xs H Q ->
  r0 (y6 X.prog X.w) X.A (call f us) (EP X pins σ Q) X.xe s
noncomputable def fe (r:R2) (ta tb:TE):TE:=fun σ H Q=>ta σ H fun x H1=>tb σ H1 fun y H2=>r x y H2 Q
noncomputable def tUn (r:V->Hp->VK->Prop) (ta:TE):TE:=fun σ H Q=>ta σ H fun x H1=>r x H1 Q
noncomputable def rI (C:Int->Int->Prop) (g:Int->Int->V):R2:=fun x y H Q=>∃i j,x=.int i/\y=.int j/\C i j/\Q (g i j) H
noncomputable def tZ (g:Int->Int->V):R2:=fun x y H Q=>∃i j,x=.int i/\y=.int j/\Q (g i j) H
noncomputable def rU (g:Int->V):V->Hp->VK->Prop:=fun x H Q=>∃i,x=.int i/\Q (g i) H
section
variable {X:Cx}{a b c:Expr}{ta tb tc:TE}{pos:Pos}
variable {f:d6->d6->Sem d6}
theorem Ik (ha:PE X a ta) (hb:PE X b tb) {pins:List (Addr × Obj)}{s:d7}{σ:St}{H:Hp}{R:V->V->Hp->Prop} (I:C6 X pins σ H s)
  (h:ta σ H fun x H1=>tb σ H1 fun y H2=>R x y H2) {Q:d6->d7->Prop}
  (hf:∀v u s2 x y H2,C6 X pins σ H2 s2->G8 x v->G8 y u->R x y H2->r0 (y6 X.prog X.w) X.A (f v u) Q X.xe s2):
  r0 (y6 X.prog X.w) X.A (eval a X.env) (fun v s₁=>r0 (y6 X.prog X.w) X.A (eval b X.env) (fun u s₂=>r0 (y6 X.prog X.w) X.A (f v u) Q X.xe s₂) X.xe s₁) X.xe s:=by
 refine Q9 (ha pins s σ H _ I h) fun v s1 ⟨x,H1,I1,r1,q1⟩=>?_
 refine Q9 (hb pins s1 σ H1 _ I1 q1) fun u s2 ⟨y,H2,I2,r2,q2⟩=>?_
 exact hf v u s2 x y H2 I2 r1 r2 q2
theorem A7 {op:Operator}{r:R2} (ho:gK X (R1 op) r) (ha:PE X a ta) (hb:PE X b tb):PE X (.BinOp a op b pos) (fe r ta tb):=by
 intro pins s σ H Q I h
 exact wpAny_BinOp (Ik ha hb I h fun v u s2 x y H2 I2 rx ry q=>ho pins s2 σ H2 x y v u Q I2 rx ry q)
theorem Bw {op:UnaryOp}{r:V->Hp->VK->Prop} (ho:UnR X (unaryOp op) r) (ha:PE X a ta):PE X (.UnaryOp op a pos) (tUn r ta):=by
 intro pins s σ H Q I h
 exact UnaryOp_ (Q9 (ha pins s σ H _ I h) fun v s1 ⟨x,H1,I1,r1,q1⟩=>ho pins s1 σ H1 x v Q I1 r1 q1)
theorem IH {C:Int->Int->Prop}{g:Int->Int->Int}
  (rule:∀(i j:Int) (t u:Tok) (s:d7) (Q:d6->d7->Prop) (E:d6->d7->Prop),C i j->Q (.int (g i j) s.toks) { s with toks:=s.toks+1 }->r0 (y6 X.prog X.w) X.A (f (.int i t) (.int j u)) Q E s):
  gK X f (rI C fun i j=>.int (g i j)):=by
 intro pins s σ H x y v u Q I rx ry h
 obtain ⟨i,j,rfl,rfl,hc,q⟩:=h
 obtain ⟨t,rfl⟩:=rx
 obtain ⟨t',rfl⟩:=ry
 exact rule i j t t' s _ _ hc ⟨.int (g i j),H,I.tok _,⟨_,rfl⟩,q⟩
theorem JJ {g:Int->Int->Int}
  (rule:∀(i j:Int) (t u:Tok) (s:d7) (Q:d6->d7->Prop) (E:d6->d7->Prop),Q (.int (g i j) s.toks) { s with toks:=s.toks+1 }->r0 (y6 X.prog X.w) X.A (f (.int i t) (.int j u)) Q E s):
  gK X f (tZ fun i j=>.int (g i j)):=by
 intro pins s σ H x y v u Q I rx ry h
 obtain ⟨i,j,rfl,rfl,q⟩:=h
 obtain ⟨t,rfl⟩:=rx
 obtain ⟨t',rfl⟩:=ry
 exact rule i j t t' s _ _ ⟨.int (g i j),H,I.tok _,⟨_,rfl⟩,q⟩
theorem Eu {g:Int->Int->Bool}
  (rule:∀(i j:Int) (t u:Tok) (s:d7) (Q:d6->d7->Prop) (E:d6->d7->Prop),Q (.bool (g i j)) s->r0 (y6 X.prog X.w) X.A (f (.int i t) (.int j u)) Q E s):
  gK X f (tZ fun i j=>.bl (g i j)):=by
 intro pins s σ H x y v u Q I rx ry h
 obtain ⟨i,j,rfl,rfl,q⟩:=h
 obtain ⟨t,rfl⟩:=rx
 obtain ⟨t',rfl⟩:=ry
 exact rule i j t t' s _ _ ⟨.bl (g i j),H,I,rfl,q⟩
noncomputable def CDiv (i j:Int):Prop:=0<j/\j<1073741824
noncomputable def Kt (i j:Int):Prop:=0<=j/\j<=1000000/\i.natAbs<2 ^ 64
noncomputable def Fd (i j:Int):Prop:=(-(2 ^ 64)<i/\i<2 ^ 64) ∨ (-(2 ^ 64)<j/\j<2 ^ 64)
theorem Fd.ok {i j:Int} (h:Fd i j):IntMulOk i j:=by
 rcases h with ⟨h1,h2⟩|⟨h1,h2⟩
 ·exact .of_left (intBits_le_64 h1 h2)
 ·exact .of_right (intBits_le_64 h1 h2)
theorem P7:gK X (R1 .Add) (tZ fun i j=>.int (i+j)):=JJ fun _ _ _ _ _ _ _ q=>add_int q
theorem sj:gK X (R1 .Sub) (tZ fun i j=>.int (i - j)):=JJ fun _ _ _ _ _ _ _ q=>sub_int q
theorem fJ:gK X (R1 .Mult) (rI Fd fun i j=>.int (i*j)):=IH fun _ _ _ _ _ _ _ hc q=>mul_int q hc.ok
theorem xU:gK X (R1 .FloorDiv) (rI CDiv fun i j=>.int (i / j)):=IH fun i j _ _ _ _ _ hc q=>by
 have h1:(0:Int)<j:=hc.1
 have h2:j<1073741824:=hc.2
 exact floordiv_int (by lia) (by rw[tH i (by lia)];exact q) (.inl (PyProof.noPylong_small (by lia)))
theorem fK:gK X (R1 .Mod) (rI (fun _ j=>0<j) fun i j=>.int (i % j)):=IH fun i j _ _ _ _ _ hc q=>by
 have h1:(0:Int)<j:=hc
 exact mod_int' (by lia) (by rw[Int.fmod_eq_emod_of_nonneg i (by lia)];exact q)
theorem lp:gK X (R1 .Pow) (rI Kt fun i j=>.int (i ^ j.toNat)):=IH fun _ _ _ _ _ _ _ hc q=>pow_int_small hc.1 hc.2.1 hc.2.2 q
theorem unI {f:d6->Sem d6}{g:Int->Int}
  (rule:∀(i:Int) (t:Tok) (s:d7) (Q:d6->d7->Prop) (E:d6->d7->Prop),Q (.int (g i) s.toks) { s with toks:=s.toks+1 }->r0 (y6 X.prog X.w) X.A (f (.int i t)) Q E s):
  UnR X f (rU fun i=>.int (g i)):=by
 intro pins s σ H x v Q I rx h
 obtain ⟨i,rfl,q⟩:=h
 obtain ⟨t,rfl⟩:=rx
 exact rule i t s _ _ ⟨.int (g i),H,I.tok _,⟨_,rfl⟩,q⟩
theorem vO:UnR X (unaryOp .USub) (rU fun i=>.int (-i)):=unI fun _ _ _ _ _ q=>neg_int q
end
noncomputable def Gy:V->V->Bool
 | .non,.non=>true | .non,.int _=>true | .int _,.non=>true | .non,.bl _=>true | .bl _,.non=>true | .non,.str _=>true | .str _,.non=>true
 | .int _,.int _=>true | .bl _,.bl _=>true | .str _,.str _=>true | .byt _,.byt _=>true
 | .int _,.str _=>true | .str _,.int _=>true | .bl _,.str _=>true | .str _,.bl _=>true
 | _,_=>false
noncomputable def rEq:R2:=fun x y H Q=>Gy x y=true/\Q (.bl (decide (x=y))) H
noncomputable def rNe:R2:=fun x y H Q=>Gy x y=true/\Q (.bl (!decide (x=y))) H
theorem yr {i j:Int}:decide (V.int i=V.int j)=(i == j):=by
 rw[aJ]
 simp
theorem CA {i j:Bool}:decide (V.bl i=V.bl j)=(i == j):=by
 rw[aJ]
 simp
theorem yq {i j:Str}:decide (V.str i=V.str j)=(i == j):=by
 rw[aJ]
 simp
theorem yt {i j:Array UInt8}:decide (V.byt i=V.byt j)=(i.toList == j.toList):=by
 rw[aJ]
 cases i
 cases j
 simp
section
variable {X:Cx}{a b c:Expr}{ta tb tc:TE}{pos:Pos}
theorem K7 {pins:List (Addr × Obj)}{σ:St}{H:Hp}{s:d7}{Q:VK}{k k':Bool} (I:C6 X pins σ H s) (q:Q (.bl k) H) (e:k=k'):EP X pins σ Q (.bool k') s:=by
 subst e
 exact ⟨.bl k,H,I,rfl,q⟩
theorem ik:gK X (P9 .Eq) rEq:=by
 intro pins s σ H x y v u Q I rx ry h
 obtain ⟨hs,q⟩:=h
 cases x with
 | non =>
  cases rx
  cases y with
  | non=>cases ry;exact PySem.EqNone.eq_none_none (K7 I q (by simp))
  | bl j=>cases ry;exact PySem.EqNone.eq_none_bool (K7 I q (by simp))
  | int j=>obtain ⟨t',rfl⟩:=ry;exact PySem.EqNone.eq_none_int (K7 I q (by simp))
  | str j=>obtain ⟨t',rfl⟩:=ry;exact PySem.EqNone.eq_none_str (K7 I q (by simp))
  | _=>exact absurd (show false=true from hs) A3
 | bl i =>
  cases rx
  cases y with
  | non=>cases ry;exact PySem.EqNone.eq_bool_none (K7 I q (by simp))
  | bl j=>cases ry;exact eq_bool (K7 I q CA)
  | str j=>obtain ⟨t',rfl⟩:=ry;exact PySem.EqMixed.eq_bool_str (K7 I q (by simp))
  | _=>exact absurd (show false=true from hs) A3
 | int i =>
  obtain ⟨t,rfl⟩:=rx
  cases y with
  | non=>cases ry;exact PySem.EqNone.eq_int_none (K7 I q (by simp))
  | int j=>obtain ⟨t',rfl⟩:=ry;exact eq_int (K7 I q yr)
  | str j=>obtain ⟨t',rfl⟩:=ry;exact PySem.EqMixed.eq_int_str (K7 I q (by simp))
  | _=>exact absurd (show false=true from hs) A3
 | str i =>
  obtain ⟨t,rfl⟩:=rx
  cases y with
  | non=>cases ry;exact PySem.EqNone.eq_str_none (K7 I q (by simp))
  | bl j=>cases ry;exact PySem.EqMixed.eq_str_bool (K7 I q (by simp))
  | int j=>obtain ⟨t',rfl⟩:=ry;exact PySem.EqMixed.eq_str_int (K7 I q (by simp))
  | str j=>obtain ⟨t',rfl⟩:=ry;exact eq_str (K7 I q yq)
  | _=>exact absurd (show false=true from hs) A3
 | byt i =>
  obtain ⟨t,rfl⟩:=rx
  cases y with
  | byt j=>obtain ⟨t',rfl⟩:=ry;exact W.eq_bytes (K7 I q yt)
  | _=>exact absurd (show false=true from hs) A3
 | _=>cases y <;> exact absurd (show false=true from hs) A3
theorem jg:gK X (P9 .NotEq) rNe:=by
 intro pins s σ H x y v u Q I rx ry h
 obtain ⟨hs,q⟩:=h
 cases x with
 | non =>
  cases rx
  cases y with
  | non=>cases ry;exact PySem.EqNone.ne_none_none (K7 I q (by simp))
  | bl j=>cases ry;exact PySem.EqNone.ne_none_bool (K7 I q (by simp))
  | int j=>obtain ⟨t',rfl⟩:=ry;exact PySem.EqNone.ne_none_int (K7 I q (by simp))
  | str j=>obtain ⟨t',rfl⟩:=ry;exact PySem.EqNone.ne_none_str (K7 I q (by simp))
  | _=>exact absurd (show false=true from hs) A3
 | bl i =>
  cases rx
  cases y with
  | non=>cases ry;exact PySem.EqNone.ne_bool_none (K7 I q (by simp))
  | bl j=>cases ry;exact ne_bool (K7 I q (congrArg not CA))
  | str j=>obtain ⟨t',rfl⟩:=ry;exact PySem.EqMixed.ne_bool_str (K7 I q (by simp))
  | _=>exact absurd (show false=true from hs) A3
 | int i =>
  obtain ⟨t,rfl⟩:=rx
  cases y with
  | non=>cases ry;exact PySem.EqNone.ne_int_none (K7 I q (by simp))
  | int j=>obtain ⟨t',rfl⟩:=ry;exact ne_int (K7 I q (congrArg not yr))
  | str j=>obtain ⟨t',rfl⟩:=ry;exact PySem.EqMixed.ne_int_str (K7 I q (by simp))
  | _=>exact absurd (show false=true from hs) A3
 | str i =>
  obtain ⟨t,rfl⟩:=rx
  cases y with
  | non=>cases ry;exact PySem.EqNone.ne_str_none (K7 I q (by simp))
  | bl j=>cases ry;exact PySem.EqMixed.ne_str_bool (K7 I q (by simp))
  | int j=>obtain ⟨t',rfl⟩:=ry;exact PySem.EqMixed.ne_str_int (K7 I q (by simp))
  | str j=>obtain ⟨t',rfl⟩:=ry;exact ne_str (K7 I q (congrArg not yq))
  | _=>exact absurd (show false=true from hs) A3
 | byt i =>
  obtain ⟨t,rfl⟩:=rx
  cases y with
  | byt j=>obtain ⟨t',rfl⟩:=ry;exact W.ne_bytes (K7 I q (congrArg not yt))
  | _=>exact absurd (show false=true from hs) A3
 | _=>cases y <;> exact absurd (show false=true from hs) A3
theorem BD:gK X (P9 .Lt) (tZ fun i j=>.bl (decide (i<j))):=Eu fun _ _ _ _ _ _ _ q=>lt_int q
theorem ij:gK X (P9 .LtE) (tZ fun i j=>.bl (decide (i<=j))):=Eu fun _ _ _ _ _ _ _ q=>le_int q
theorem xS:gK X (P9 .Gt) (tZ fun i j=>.bl (decide (j<i))):=Eu fun _ _ _ _ _ _ _ q=>gt_int q
theorem JI:gK X (P9 .GtE) (tZ fun i j=>.bl (decide (j<=i))):=Eu fun _ _ _ _ _ _ _ q=>ge_int q
variable {op:Dv}
theorem M5 (b:Expr) (h:op≠.In:=by decide) (h2:op≠.NotIn:=by decide):bw op b=false:=by
 have e1:(op == CmpOp.In)=false:=by cases op <;> first|rfl|exact absurd rfl h
 have e2:(op == KH)=false:=by cases op <;> first|rfl|exact absurd rfl h2
 cases b <;> simp[bw,e1,e2]
variable {r:R2}
theorem cN (ho:gK X (P9 op) r) (ha:PE X a ta) (hb:PE X b tb) (hm:bw op b=false):PE X (.Compare a [op] [b] pos) (fe r ta tb):=by
 intro pins s σ H Q I h
 exact wpAny_Compare1 (Ik ha hb I h fun v u s2 x y H2 I2 rx ry q=>ho pins s2 σ H2 x y v u Q I2 rx ry q) hm
noncomputable def Ft (t:TE):TT:=fun σ H Q=>t σ H fun x H'=>∃k,x=.bl k/\Q k H'
theorem N6 {op:Dv}{r:R2} (ho:gK X (P9 op) r) (ha:PE X a ta) (hb:PE X b tb) (hm:bw op b=false):PT X (.Compare a [op] [b] pos) (Ft (fe r ta tb)):=by
 intro pins s σ H Q I h
 refine Ff (Q9 (ha pins s σ H _ I h) fun v s1 ⟨x,H1,I1,r1,q1⟩=>Q9 (hb pins s1 σ H1 _ I1 q1) fun u s2 ⟨y,H2,I2,r2,q2⟩ =>
  Q9 (ho pins s2 σ H2 x y v u _ I2 r1 r2 q2) fun c s3 ⟨z,H3,I3,r3,k,e,q3⟩=>?_) hm
 subst e
 cases r3
 exact O6 ⟨H3,I3,q3⟩
noncomputable def vS (r r':R2) (ta tb tc:TE):TE:=fun σ H Q=>ta σ H fun x H1=>tb σ H1 fun y H2=>r x y H2 fun z H3=>∃k,z=.bl k /\
 (if k=true then tc σ H3 fun w' H4=>r' y w' H4 Q else Q (.bl false) H3)
theorem ig {op':Dv}{r':R2} (ho:gK X (P9 op) r) (ho':gK X (P9 op') r') (ha:PE X a ta) (hb:PE X b tb) (hc:PE X c tc)
  (hm:lastMarks [op,op'] [b,c]=false:=by with_unfolding_all rfl):PE X (.Compare a [op,op'] [b,c] pos) (vS r r' ta tb tc):=by
 intro pins s σ H Q I h
 refine Compare_chain (Q9 (ha pins s σ H _ I h) fun v s1 ⟨x,H1,I1,r1,q1⟩=>chain_link (Q9 (hb pins s1 σ H1 _ I1 q1) fun u s2 ⟨y,H2,I2,r2,q2⟩ =>
  Q9 (ho pins s2 σ H2 x y v u _ I2 r1 r2 q2) fun d s3 ⟨z,H3,I3,r3,k,e,q3⟩=>?_)) hm
 subst e
 cases r3
 refine O6 ?_
 cases k with
 | false=>exact ite_ff ⟨.bl false,H3,I3,rfl,q3⟩
 | true=>exact ite_tt (chain_last (Q9 (hc pins s3 σ H3 _ I3 q3) fun w' s4 ⟨z',H4,I4,r4,q4⟩=>ho' pins s4 σ H4 y z' u w' Q I4 r2 r4 q4))
theorem Bn {op':Dv}{r':R2} (ho:gK X (P9 op) r) (ho':gK X (P9 op') r') (ha:PE X a ta) (hb:PE X b tb) (hc:PE X c tc)
  (hm:lastMarks [op,op'] [b,c]=false:=by with_unfolding_all rfl):PT X (.Compare a [op,op'] [b,c] pos) (Ft (vS r r' ta tb tc)):=by
 intro pins s σ H Q I h
 refine isTrue_chain (Q9 (ha pins s σ H _ I h) fun v s1 ⟨x,H1,I1,r1,q1⟩=>test_link (Q9 (hb pins s1 σ H1 _ I1 q1) fun u s2 ⟨y,H2,I2,r2,q2⟩ =>
  Q9 (ho pins s2 σ H2 x y v u _ I2 r1 r2 q2) fun d s3 ⟨z,H3,I3,r3,k,e,q3⟩=>?_)) hm
 subst e
 cases r3
 refine O6 ?_
 cases k with
 | false =>
  obtain ⟨k',e',q'⟩:=q3
  cases e'
  exact ite_ff ⟨H3,I3,q'⟩
 | true =>
  refine ite_tt (test_last (Q9 (hc pins s3 σ H3 _ I3 q3) fun w' s4 ⟨z',H4,I4,r4,q4⟩=>Q9 (ho' pins s4 σ H4 y z' u w' _ I4 r2 r4 q4) fun d' s5 ⟨z2,H5,I5,r5,k2,e2,q5⟩=>?_))
  subst e2
  cases r5
  exact O6 ⟨H5,I5,q5⟩
theorem sr:(i7:Nat)<2 ^ 63:=by rw[S6];decide
theorem jf {x:V}{us:List d6} (r:F2 [x] us):∃u,us=[u]/\G8 x u:=by
 cases r with
 | cons r1 r2=>cases r2;exact ⟨_,rfl,r1⟩
theorem Fq {x y:V}{us:List d6} (r:F2 [x,y] us):∃u w',us=[u,w']/\G8 x u/\G8 y w':=by
 cases r with
 | cons r1 r2 =>
  cases r2 with
  | cons r3 r4=>cases r4;exact ⟨_,_,rfl,r1,r3⟩
theorem va:bp X (.builtin "abs") (fun xs H Q=>∃i,xs=[.int i]/\Q (.int (if i<0 then -i else i)) H):=by
 intro pins s σ H xs us Q I r h
 obtain ⟨i,rfl,q⟩:=h
 obtain ⟨u,rfl,t,rfl⟩:=jf r
 exact call_abs_int fun u tk=>⟨.int (if i<0 then -i else i),H,I.tok _,⟨_,rfl⟩,q⟩
theorem zR (hc:X.calm=true):bp X (.builtin "max") (fun xs H Q=>∃i j,xs=[.int i,.int j]/\Q (.int (if j > i then j else i)) H):=by
 intro pins s σ H xs us Q I r h
 obtain ⟨i,j,rfl,q⟩:=h
 obtain ⟨u,w',rfl,⟨t,rfl⟩,⟨t',rfl⟩⟩:=Fq r
 refine max_two_ints (I.ok.hd hc) fun h' tk k=>⟨_,H,I.kept k,?_,q⟩
 by_cases hj:j > i
 ·rw[if_pos hj,if_pos hj];exact ⟨_,rfl⟩
 ·rw[if_neg hj,if_neg hj];exact ⟨_,rfl⟩
theorem zQ (hc:X.calm=true):bp X (.builtin "min") (fun xs H Q=>∃i j,xs=[.int i,.int j]/\Q (.int (if j<i then j else i)) H):=by
 intro pins s σ H xs us Q I r h
 obtain ⟨i,j,rfl,q⟩:=h
 obtain ⟨u,w',rfl,⟨t,rfl⟩,⟨t',rfl⟩⟩:=Fq r
 refine min_two_ints (I.ok.hd hc) fun h' tk k=>⟨_,H,I.kept k,?_,q⟩
 by_cases hj:j<i
 ·rw[if_pos hj,if_pos hj];exact ⟨_,rfl⟩
 ·rw[if_neg hj,if_neg hj];exact ⟨_,rfl⟩
theorem cX:bp X (.type "int") (fun xs H Q=>(∃i,xs=[.int i]/\Q (.int i) H) ∨ ∃k,xs=[.bl k]/\Q (.int (if k then 1 else 0)) H):=by
 intro pins s σ H xs us Q I r h
 rcases h with ⟨i,rfl,q⟩|⟨k,rfl,q⟩
 ·obtain ⟨u,rfl,t,rfl⟩:=jf r
  exact call_int_int ⟨.int i,H,I,⟨_,rfl⟩,q⟩
 ·obtain ⟨u,rfl,r1⟩:=jf r
  cases r1
  exact call_int_bool ⟨.int (if k then 1 else 0),H,I.tok _,⟨_,rfl⟩,q⟩
end
structure Ip (h:Heap) (x dx C:Addr) (mA:Str->Option d6):Prop where
 obj:h.get? x=some (IU C dx)
 ns:h.Ns1 dx mA
 ne:dx≠x
theorem zv {dx:Addr}{mA:Str->Option d6} (n:h.Ns1 dx mA):∃od,h.get? dx=some od/\∀name,KZ name od=some (mA name):=by
 obtain ⟨o,es,ep,ho,hd,hk,_,hm⟩:=n
 refine ⟨o,ho,fun name=>?_⟩
 have e:=hm name
 unfold nsFind findBy at e
 rw[<- Array.find?_toList] at e
 unfold KZ
 rw[hd]
 dsimp only
 split
 ·rename_i y q
  rw[q] at e
  exact congrArg some e
 ·rename_i q
  rw[q] at e
  have a:es.toList.any (·.refKey)=false:=by
   rw[List.any_eq_false]
   intro y hy
   obtain ⟨z,t,hkey⟩:=hk y (Array.mem_toList_iff.mp hy)
   simp[DictEntry.refKey,hkey]
  have a':¬ es.toList.any (·.refKey)=true:=by rw[a];exact A3
  rw[if_neg a']
  exact congrArg some e
theorem Ip.look {x dx C:Addr}{mA:Str->Option d6} (I:Ip h x dx C mA):∃od,La h x (IU C dx) C (some od)/\∀name,KZ name od=some (mA name):=
 let ⟨od,ho,hl⟩:=zv I.ns
 ⟨od,⟨I.obj,rfl,rfl,ho⟩,hl⟩
section
variable {prog:j9}{w:t9}{A:v7}{E:d6->d7->Prop}{s:d7}{K:m9}{x dx C f:Addr}{mA:Str->Option d6}{name:Str}{v:d6}
end
theorem lG.some_of {v:V}{o:Option d6} (r:lG (some v) o):∃u,o=some u/\G8 v u:=by
 cases o with
 | none=>exact (show False from r).elim
 | some u=>exact ⟨u,rfl,r⟩
section
variable {P:j9}{w:t9}{H H':Hp}{h h':Heap}{a C dx:Addr}{fs fs':List (Str × V)}
theorem EK (hok:bh P w H h) (e:H a=some (.ins C dx fs)):∃mA,Ip h a dx C mA/\(∀f,lG (fs.lookup f) (mA f))/\IY mA (fs.map (·.1))/\fs.length<=1000/\H dx=some (.own a):=by
 obtain ⟨d,z,ne,ob,mA,n,r,q⟩:=(show N9 P w H h a (.ins C dx fs) from hok a _ e)
 exact ⟨mA,⟨ob,n,ne⟩,r,q,z,d⟩
end
structure Cls (K:m9) (C:Addr):Prop where
 pg:W.plainGet K C Str.empty=true
 hd:W.hasDictIn K C=true
 po:W.plainOver K C=true
 sa:S7 K (.ref C) "__setattr__"=some (some (.builtin "object.__setattr__"))
theorem Cls.get {C:Addr} (c:Cls K C) (f:Str):W.plainGet K C f=true:=c.pg
structure Con (K:m9) (C:Addr) (f:Str) (v:V) (u:d6):Prop where
 at_:S7 K (.ref C) f=some (some u)
 rel:G8 v u
 get:kO K u "__get__"=some none
 cp:W.copiedNames.contains f=false
structure Meth (K:m9) (C:Addr) (m:Str) (f:Addr):Prop where
 at_:S7 K (.ref C) m=some (some (.ref f))
 fn:W.isFn K (.ref f)=true
 kp:ba K (.ref f)=true
section
variable {X:Cx}{pins:List (Addr × Obj)}{σ:St}{H:Hp}{s:d7}{a C dx:Addr}{fs:List (Str × V)}{f:Str}{v:V}{A:v7}{E:d6->d7->Prop}
end
section
variable {X:Cx}{o e value:Expr}{f:Str}{pos pos' tpos:Pos}{ta tv:TE}
end
section
variable {X:Cx}{pins:List (Addr × Obj)}{σ:St}{H:Hp}{s:d7}{A:v7}{E:d6->d7->Prop}{Q:d6->d7->Prop}{c:d6}{b:Bool}
inductive lE (K:m9) (H:Hp):V->d6->Prop where
 | non:lE K H .non (.type "NoneType")
 | bl (x:Bool):lE K H (.bl x) (.type "bool")
 | int (i:Int):lE K H (.int i) (.type "int")
 | str (x:Str):lE K H (.str x) (.type "str")
 | flt (x:UInt64):lE K H (.flt x) (.type "float")
 | lst {a:Addr}{xs:List V} (e:H a=some (.lst xs)):lE K H (.ref a) (.type "list")
 | frz {a:Addr}{o:Obj}{xs:List V} (e:H a=some (.frz o (.lst xs))):lE K H (.ref a) (.type "list")
 | tup {a:Addr}{xs:List V} (e:H a=some (.tup xs)):lE K H (.ref a) (.type "tuple")
 | dK {a:Addr}{kvs:List (V0 × V)} (e:H a=some (.dK kvs)):lE K H (.ref a) (.type "dict")
 | dT {a:Addr}{kvs:List (List V0 × V)} (e:H a=some (.dT kvs)):lE K H (.ref a) (.type "dict")
 | ins {a C dx:Addr}{fs:List (Str × V)} (e:H a=some (.ins C dx fs)) (cl:Cls K C) (ha:S7 K (.ref C) "__class__"=some (some (.builtin "object.__class__")))
   (hn:kO K (.builtin "object.__class__") "__get__"=some (some (.builtin "getset_descriptor.__get__"))) (htk:zX K (.builtin "object.__class__")=some true)
   (hm:Iv K C (.type "object")=some true):lE K H (.ref a) (.ref C)
theorem zD {x:V}{u t:d6} (I:C6 X pins σ H s) (rx:G8 x u) (ty:lE X.K H x t) (e:aZ X.K t c=some b) (h:∀tk,Q (.bool b) { s with toks:=tk }):
  r0 (y6 X.prog X.w) A (call (.builtin "isinstance") [u,c]) Q E s:=by
 cases ty with
 | non=>cases (show u=D9 from rx);exact Z5 W.kitx_none I.kIn U4 e (fun z=>nomatch z) h
 | bl y=>cases (show u=W7 y from rx);exact Z5 W.kitx_bool I.kIn U4 e (fun z=>nomatch z) h
 | int i=>obtain ⟨t,q⟩:=(show ∃t,u=mR i t from rx);cases q;exact Z5 W.kitx_int I.kIn U4 e (fun z=>nomatch z) h
 | str y=>obtain ⟨t,q⟩:=(show ∃t,u=vp y t from rx);cases q;exact Z5 W.kitx_str I.kIn U4 e (fun z=>nomatch z) h
 | flt y=>obtain ⟨t,q⟩:=(show ∃t,u=KF y t from rx);cases q;exact Z5 W.kitx_float I.kIn U4 e (fun z=>nomatch z) h
 | @lst a xs ea =>
  cases (show u=B1 a from rx)
  obtain ⟨_,_,n,_,h1⟩:=(show N9 X.prog X.w H s.heap a (.lst xs) from I.hok a _ ea)
  exact Z5 W.kitx_list I.kIn ⟨_,h1,rfl⟩ e (fun z=>nomatch z) h
 | @frz a ob xs ea =>
  cases (show u=B1 a from rx)
  obtain ⟨_,_,_,n,_,h1⟩:=(show N9 X.prog X.w H s.heap a (.frz ob (.lst xs)) from I.hok a _ ea)
  exact Z5 W.kitx_list I.kIn ⟨_,h1,rfl⟩ e (fun z=>nomatch z) h
 | @tup a xs ea =>
  cases (show u=B1 a from rx)
  obtain ⟨_,_,_,p⟩:=(show N9 X.prog X.w H s.heap a (.tup xs) from I.hok a _ ea)
  obtain ⟨o,h1,h2,_⟩:=p
  exact Z5 W.kitx_tuple I.kIn ⟨o,h1,h2⟩ e (fun z=>nomatch z) h
 | @dK a kvs ea =>
  cases (show u=B1 a from rx)
  obtain ⟨_,_,vs,_,p⟩:=(show N9 X.prog X.w H s.heap a (.dK kvs) from I.hok a _ ea)
  obtain ⟨o,es,ep,h1,h2,_⟩:=p
  exact Z5 W.kitx_dict I.kIn ⟨o,h1,h2.1⟩ e (fun z=>nomatch z) h
 | @dT a kvs ea =>
  cases (show u=B1 a from rx)
  obtain ⟨_,_,xs,_,o,es,ep,h1,h2,_⟩:=(show N9 X.prog X.w H s.heap a (.dT kvs) from I.hok a _ ea)
  exact Z5 W.kitx_dict I.kIn ⟨o,h1,h2.1⟩ e (fun z=>nomatch z) h
 | @ins a C dx fs ea cl ha hn htk hm =>
  cases (show u=B1 a from rx)
  obtain ⟨mA,O,_⟩:=EK I.hok ea
  obtain ⟨od,J,_⟩:=O.look
  exact Z5 (W.kitx_own (cl.get _) cl.hd ha hn htk hm) I.kIn J e (fun z=>nomatch z) h
end
structure bg (k:Nat) (A:v7):Prop where
 hd:A.handled=none
 dp:A.depth+3*k+5<recursionLimit
 un:A.units+16*k+200<jk
theorem bg.mono {j k:Nat}(r:bg k A) (h:j<=k):bg j A:=⟨r.hd,by have:=r.dp;lia,by have:=r.un;lia⟩
theorem bg.deeper {k:Nat}{A:v7} (r:bg (k+1) A) (env:Env):bg k (A.deeper env):=
 ⟨r.hd,by have:=r.dp;show A.depth+1+3*k+5<_;lia,by have:=r.un;show A.units+3+16*k+200<_;lia⟩
theorem bg.depth {k:Nat}{A:v7} (r:bg k A):A.depth<recursionLimit:=by have:=r.dp;lia
theorem bg.units {k:Nat}{A:v7} (r:bg k A):A.units+64<jk:=by have:=r.un;lia
noncomputable def jQ:TA:=fun _ H Q=>Q [] H
noncomputable def bV (ta:TE) (tr:TA):TA:=fun σ H Q=>ta σ H fun x H1=>tr σ H1 fun xs H2=>Q (x::xs) H2
section
variable {X:Cx}{e:Expr}{es:List Expr}{te:TE}{t:TA}{pos:Pos}
theorem d8:PA X [] jQ:=fun _ _ _ _ H Q I h=>Dw ⟨[],H,I,.nil,h⟩
theorem b7 (ha:PE X e te) (hr:PA X es t) (hs:w6 (e::es) X.env=(false,eval e X.env)::w6 es X.env:=by rfl):PA X (e::es) (bV te t):=by
 intro pos pins s σ H Q I h
 rw[hs]
 show r0 _ _ (spliced ((false,eval e X.env)::S9 pos (w6 es X.env))) _ _ s
 refine kQ (Q9 (ha pins s σ H _ I h) fun u s1 ⟨x,H1,I1,r1,q1⟩=>?_)
 exact Q9 (hr pos pins s1 σ H1 _ I1 q1) fun us s2 ⟨xs,H2,I2,r2,q2⟩=>⟨x::xs,H2,I2,.cons r1 r2,q2⟩
noncomputable def pA (t:TA):TE:=fun σ H Q=>t σ H fun xs H1=>xs.length<=i7/\∀p,H1 p=none->Q (.ref p) (t6 H1 p (.tup xs))
noncomputable def Ea (t:TA):TE:=fun σ H Q=>t σ H fun xs H1=>xs.length<=i7/\∀p,H1 p=none->Q (.ref p) (t6 H1 p (.lst xs))
theorem D0 {x1} (h:PA X es t):PE X (.Tuple es x1 pos) (pA t):=by
 intro pins s σ H Q I hq
 refine wpAny_Tuple_spliced (Q9 (h pos pins s σ H _ I hq) fun us s1 ⟨xs,H1,I1,r,z,q⟩=>⟨by rw[<- r.length];exact z,?_⟩)
 have hf:H1 s1.heap.objs.size=none:=I1.hok.fresh (i9 _)
 refine ⟨.ref s1.heap.objs.size,t6 H1 s1.heap.objs.size (.tup xs),I1.laid (t':=s1.toks) (fun b u e=>f9 _ e) (i9 _) ?_,rfl,q _ hf⟩
 exact ⟨⟨z,⟨_,q9 _ rfl,rfl⟩⟩,us,r,⟨_,q9 _ rfl,rfl,_,rfl⟩⟩
theorem N1 (h:PA X es t):PE X (.List es pos) (Ea t):=by
 intro pins s σ H Q I hq
 refine wpAny_List_spliced (Q9 (h pos pins s σ H _ I hq) fun us s1 ⟨xs,H1,I1,r,z,q⟩=>⟨by rw[<- r.length];exact z,?_⟩)
 have hf:H1 s1.heap.objs.size=none:=I1.hok.fresh (i9 _)
 refine ⟨.ref s1.heap.objs.size,t6 H1 s1.heap.objs.size (.lst xs),I1.laid (t':=s1.toks) (fun b u e=>f9 _ e) (i9 _) ?_,rfl,q _ hf⟩
 exact ⟨z,us,0,r,q9 _ rfl⟩
end
noncomputable abbrev Sp:=List V->Hp->VK->XK->Prop
noncomputable abbrev yI:=List Env->Hp->d7->XK->d6->d7->Prop
structure CU (P:j9) (w:t9) (K:m9) (mg:Str->Option d6) (base:Heap) (A:v7) (outer:List Env) (s:d7) (H:Hp):Prop where
 frames:A.frames=some outer
 mod:Mod K mg base
 bs:∀b o,base.get? b=some o->s.heap.get? b=some o/\H b=none
 bsz:base.objs.size<=s.heap.objs.size
 funs:s.heap.FunFrames base outer
 frf:∀b∈kr outer,H b=none
 hok:bh P w H s.heap
 bare:iA s.gens
noncomputable def CE (outer:List Env) (P:j9) (w:t9) (H:Hp) (s:d7) (Q:VK) (u:d6) (s':d7):Prop :=
 ∃v H',s'.os=s.os/\iA s'.gens/\Un (kr outer) [] H H' s.heap s'.heap/\bh P w H' s'.heap/\G8 v u/\Q v H'
noncomputable def CR (CX:yI) (outer:List Env) (P:j9) (w:t9) (H:Hp) (s:d7) (Q:VK) (E:XK) (r:tD) (s':d7):Prop :=
 match r with
 | .ok (.ret u)=>CE outer P w H s Q u s'
 | .ok _=>False
 | .error e=>CX outer H s E e s'
structure M0 (P:j9) (w:t9) (K:m9) (mg:Str->Option d6) (base:Heap) (CX:yI) (k:Nat) (f:Addr) (fd:C4) (ps:List Str) (sp:Sp):Prop where
 len:∀vs H Q E,sp vs H Q E->vs.length=ps.length
 run:∀(A:v7) (outer:List Env) (s:d7) (H:Hp) (args:Args) (us:List d6) (vs:List V) (Q:VK) (E:XK),bg k A->CU P w K mg base A outer s H->rm s fd args (ps.zip us)->F2 vs us->sp vs H Q E ->
  jK (y6 P w) A (.call (.ref f) args) (CR CX outer P w H s Q E) s
theorem M0.mono {P:j9}{w:t9}{K:m9}{mg:Str->Option d6}{base:Heap}{CX:yI}{j k:Nat}{f:Addr}{fd:C4}{ps:List Str}{sp:Sp} (F:M0 P w K mg base CX j f fd ps sp) (h:j<=k):
  M0 P w K mg base CX k f fd ps sp:=⟨F.len,fun A outer s H args us vs Q E hr=>F.run A outer s H args us vs Q E (hr.mono h)⟩
section
variable {X:Cx}{pins:List (Addr × Obj)}{σ:St}{H:Hp}{s s':d7}
theorem C6.env0 (I:C6 X pins σ H s):CU X.prog X.w X.K X.mg X.base X.A X.stack s H :=
 ⟨I.ok.frames,I.ok.mod,I.bs,m8 I.ok.bsz I.sz,I.stack,I.stkFree,I.hok,I.bare⟩
theorem C6.after {Q:VK}{u:d6} (I:C6 X pins σ H s) (h:CE X.stack X.prog X.w H s Q u s'):EP X pins σ Q u s':=by
 obtain ⟨v,H',os,bare,un,hok,r,q⟩:=h
 obtain ⟨hh,g,d,t,os'⟩:=s'
 obtain rfl:os'=s.os:=os
 exact ⟨v,H',I.call (h':=hh) (g':=g) (d':=d) (t':=t) (ch:=[]) un hok bare (fun b z=>absurd z (by simp)),r,q⟩
end
noncomputable def AG (sp:Sp) (dvs:List V) (E:XK) (t:TA):TE:=fun σ H Q=>t σ H fun vs H1=>sp (vs++dvs) H1 Q E
noncomputable def jh (K:m9) (fd:C4) (ps:List Str) (ds:List d6):Prop :=
 ∀(s:d7) (us:List d6),K.In s.heap->(us++ds).length=ps.length->rm s fd ⟨us,[]⟩ (ps.zip (us++ds))
variable {ps:List Str}
theorem jh.all {fd:C4}(h:∀us:List d6,us.length=ps.length->yP fd ⟨us,[]⟩=pure (ps.zip us)):jh K fd ps []:=fun s us _ hl=>by
 rw[T8] at hl ⊢
 exact .of_eq (h us hl)
noncomputable def jB (CX:yI) (X:Cx) (E:XK):Prop:=∀(pins:List (Addr × Obj)) (σ:St) (H:Hp) (s:d7) (e:d6) (s':d7),C6 X pins σ H s->CX X.stack H s E e s'->X.xe e s'
section
variable {X:Cx}{CX:yI}{k:Nat}{f C:Addr}{fd:C4}{ps:List Str}{sp:Sp}{dvs:List V}{ds:List d6}{E:XK}{x m:Str}{p pos apos:Pos}{e o:Expr}{es:List Expr}{ta:TE}{t:TA}
theorem GK {pins:List (Addr × Obj)}{σ:St}{H:Hp}{s:d7}{Q:VK}{us:List d6}{vs:List V} (F:M0 X.prog X.w X.K X.mg X.base CX k f fd ps sp) (hr:bg k X.A) (hb:jh X.K fd ps ds) (hd:F2 dvs ds) (hx:jB CX X E)
  (I:C6 X pins σ H s) (r:F2 vs us) (h:sp (vs++dvs) H Q E):r0 (y6 X.prog X.w) X.A (call (.ref f) us) (EP X pins σ Q) X.xe s:=by
 have r2:F2 (vs++dvs) (us++ds):=r.append hd
 have hl:(us++ds).length=ps.length:=by rw[<- r2.length];exact F.len _ _ _ _ h
 refine oU (jJ (F.run X.A X.stack s H ⟨us,[]⟩ (us++ds) (vs++dvs) Q E hr I.env0 (hb s us I.kIn hl) r2 h) fun r s' hq=>?_)
 cases r with
 | error e=>exact hx pins σ H s e s' I hq
 | ok fl =>
  cases fl with
  | ret u=>exact I.after hq
  | next=>exact E2 hq
  | brk=>exact E2 hq
  | cont=>exact E2 hq
theorem xP (F:M0 X.prog X.w X.K X.mg X.base CX k f fd ps sp) (hr:bg k X.A) (hg:Gl X x) (hm:X.mg x=some (.ref f)) (hk:ba X.K (.ref f)=true) (hb:jh X.K fd ps ds) (hd:F2 dvs ds) (hx:jB CX X E)
  (ha:PA X (e::es) t) (hdb:(x == ("__debug__":Str))=false:=by decide) (he:w6 (e::es) X.env=(false,eval e X.env)::w6 es X.env:=by rfl) (hpl:(S9 pos (w6 es X.env)).any (·.1)=false:=by rfl):
  PE X (.Call (.Name x p) (e::es) [] pos) (AG sp dvs E t):=by
 intro pins s σ H Q I h
 refine Y9 (kc I hg hm ?_ hdb)
 refine W.callWith_K (h₀:=X.base) I.ok.mod.kin hk (Q9 (ha pos pins s σ H _ I h) fun us s1 ⟨vs,H1,I1,r,q⟩=>⟨I1.kIn,?_⟩) he hpl
 exact GK F hr hb hd hx I1 r q
structure Mk (K:m9) (C f:Addr):Prop where
 makes:W.makesIn K C=true
 init:S7 K (.ref C) "__init__"=some (some (.ref f))
 fn:W.isFn K (.ref f)=true
 kp:ba K (.ref C)=true
end
section
variable {X:Cx}{CX:yI}{k:Nat}{f C:Addr}{fd:C4}{ps ks:List Str}{sp:Sp}{E:XK}{x m:Str}{p pos apos kpos:Pos}{e o:Expr}{es:List Expr}{kws:List iz}{te ta:TE}{t tk:TA}{nm:Option Str}
structure KBinds (K:m9) (fd:C4) (ps ks:List Str) (g:List d6->List d6->List d6) (gV:List V->List V->List V):Prop where
 to:∀(s:d7) (us ws:List d6),K.In s.heap->(g us ws).length=ps.length->rm s fd ⟨us,ks.zip ws⟩ (ps.zip (g us ws))
 rel:∀{vs:List V}{us:List d6}{zs:List V}{ws:List d6},F2 vs us->F2 zs ws->F2 (gV vs zs) (g us ws)
variable {g:List d6->List d6->List d6}{gV:List V->List V->List V}
end
structure C3 (N P:List Str) (sc:N3):Prop where
 kind:sc.kind=.function
 co:sc.isCoroutine=false
 gen:sc.isGenerator=false
 nd:N.Nodup
 pre:N.take P.length=P
 par:∀x∈P,sc.names.lookup x=some .local ∨ sc.names.lookup x=some .cell
 nofree:∀y∈sc.names,y.2≠.free
theorem qG {kindOf:Str->Option X8}{x:Str}:∀{binds:List (Str × d6)}{m:Str->Option d6},(∀v,(x,v) ∉ binds)->Dg kindOf binds m x=m x
 | [],_,_=>rfl
 | (n,v)::r,m,h=>by
  unfold Dg
  rw[qG fun w hw=>h w (f7 _ hw)]
  split
  ·have:x≠n:=by rintro rfl;exact h v i4
   simp[this]
  ·rfl
theorem qI {kindOf:Str->Option X8}{x:Str}:∀{binds:List (Str × d6)}{m:Str->Option d6},(∀v,(x,v) ∉ binds)->Dh kindOf binds m x=m x
 | [],_,_=>rfl
 | (n,v)::r,m,h=>by
  unfold Dh
  rw[qI fun w hw=>h w (f7 _ hw)]
  split
  ·rfl
  ·have:x≠n:=by rintro rfl;exact h v i4
   simp[this]
theorem qH {kindOf:Str->Option X8}{x:Str}{v:d6}:∀{P:List Str}{vs:List d6}{i:Nat}{m:Str->Option d6},P.Nodup->P[i]?=some x->vs[i]?=some v->kindOf x=some .local ->
  Dg kindOf (P.zip vs) m x=some v
 | [],_,_,_,_,h,_,_=>by simp at h
 | _::_,[],_,_,_,_,h,_=>by simp at h
 | p::P,w::vs,0,m,nd,h1,h2,hk=>by
  simp at h1 h2;subst h1;subst h2
  show Dg kindOf ((p,w)::P.zip vs) m p=_
  unfold Dg
  rw[qG fun v hv=>(List.nodup_cons.mp nd).1 (iX hv).1,if_pos hk]
  simp
 | p::P,w::vs,i+1,m,nd,h1,h2,hk=>by
  show Dg kindOf ((p,w)::P.zip vs) m x=_
  unfold Dg
  exact qH (i:=i) (List.nodup_cons.mp nd).2 (by simpa using h1) (by simpa using h2) hk
theorem qJ {kindOf:Str->Option X8}{x:Str}{v:d6}:∀{P:List Str}{vs:List d6}{i:Nat}{m:Str->Option d6},P.Nodup->P[i]?=some x->vs[i]?=some v->kindOf x≠some .local ->
  Dh kindOf (P.zip vs) m x=some v
 | [],_,_,_,_,h,_,_=>by simp at h
 | _::_,[],_,_,_,_,h,_=>by simp at h
 | p::P,w::vs,0,m,nd,h1,h2,hk=>by
  simp at h1 h2;subst h1;subst h2
  show Dh kindOf ((p,w)::P.zip vs) m p=_
  unfold Dh
  rw[qI fun v hv=>(List.nodup_cons.mp nd).1 (iX hv).1,if_neg hk]
  simp
 | p::P,w::vs,i+1,m,nd,h1,h2,hk=>by
  show Dh kindOf ((p,w)::P.zip vs) m x=_
  unfold Dh
  exact qJ (i:=i) (List.nodup_cons.mp nd).2 (by simpa using h1) (by simpa using h2) hk
noncomputable def start (N:List Str) (vs:List V):St:=vs.map some++m6 (N.length - vs.length) none
noncomputable def eX (CX:yI) (P:j9) (w:t9) (K:m9) (mg:Str->Option d6) (base:Heap) (N:List Str) (qual:Str) (scope:N3) (f:Addr) (cd:d6) (A:v7) (outer:List Env) (s:d7) (H:Hp) (E:XK):Cx where
 prog:=P
 w:=w
 K:=K
 mg:=mg
 base:=base
 A:=A.deeper (W1 qual scope s.heap.objs.size f cd)
 N:=N
 s₀:=s
 H₀:=H
 env:=W1 qual scope s.heap.objs.size f cd
 outer:=outer
 stack:=W1 qual scope s.heap.objs.size f cd::outer
 ex:=[]
 calm:=true
 fn:=fun _=>true
 pn:=[]
 xe:=fun e s'=>r0 (y6 P w) (A.deeper (W1 qual scope s.heap.objs.size f cd)) (DJ (W1 qual scope s.heap.objs.size f cd) e) (fun _ s''=>CX outer H s E e s'') (fun e' s''=>CX outer H s E e' s'') s'
theorem kC {sc:N3}{n:Nat}{x:Str} (h:sc.names.lookup x=some .cell):∃c,(O0 n sc.names []).lookup x=some c:=by
 have q:=qY sc.names n [] (.inl h)
 exact Option.isSome_iff_exists.mp q
theorem qy {CX:yI}{mg:Str->Option d6}{base:Heap}{N:List Str}{qual:Str}{scope:N3}{f:Addr}{cd:d6}{outer:List Env}{s1:d7}{E:XK}{us:List d6}{vs:List V}
  (S:C3 N ps scope) (hd:A.handled=none) (e0:CU P w K mg base A outer s H) (hl:vs.length=ps.length) (r:F2 vs us)
  (x:InCallC s s.heap.objs.size (Dg (W1 qual scope s.heap.objs.size f cd).kindOf (ps.zip us) fun _=>none) (O0 (s.heap.objs.size+1) scope.names []) (Dh (W1 qual scope s.heap.objs.size f cd).kindOf (ps.zip us) fun _=>none) s1):
  C6 (eX CX P w K mg base N qual scope f cd A outer s H E) [] (start N vs) H s1:=by
 have hpl:ps.length<=N.length:=by have:=congrArg Ab S.pre;rw[A4] at this;lia
 obtain ⟨h1,tk,rfl,hk⟩:=x.done
 have noA:∀b:Addr,b ∉ (eX CX P w K mg base N qual scope f cd A outer s H E).ex:=fun b z=>absurd (show b∈([]:List Addr) from z) (by simp)
 refine ⟨⟨e0.mod,S.kind,rfl,rfl,i9 _,fun y z c h1 h2=>?_,fun y hy=>?_,fun y c _ h=>?_,fun _=>hd,xt e0.frames,.inr ⟨rfl,rfl⟩,fun b z=>absurd z (noA b),e0.bs,e0.bsz,fun b _ _=>noA b,fun b z=>absurd z (noA b),e0.funs,e0.frf⟩,
  rfl,e0.bare,Un.kept hk,⟨_,x.toInCall.ns,fun i y v h1 h2 h3=>?_⟩,fun y c h=>⟨_,x.cell y c h⟩,e0.hok.fresh (i9 _),fun y c h=>?_,fun p hp=>absurd (show p∈([]:List (Addr × Obj)) from hp) (by simp),e0.hok.kept hk,?_⟩
 ·exact name_of_addr x.apart (aq h1) (aq h2)
 ·have hy:scope.names.lookup y=some .cell ∨ scope.names.lookup y=some .free:=hy
  rcases hy with hy|hy
  ·exact kC hy
  ·exact absurd rfl (S.nofree _ (aq hy))
 ·exact dX (x.above y c (aq h))
 ·have hi:i<vs.length:=by
   unfold start at h2
   by_cases hi:i<vs.length
   ·exact hi
   ·rw[List.getElem?_append_right (by simpa using hi)] at h2
    rw[gI] at h2
    split at h2 <;> cases h2
  have ha:vs[i]?=some v:=by
   unfold start at h2
   rw[List.getElem?_append_left (by simpa using hi),n8] at h2
   cases e:vs[i]? with
   | none=>rw[e] at h2;cases h2
   | some a=>rw[e] at h2;cases h2;rfl
  obtain ⟨u,hu,rv⟩:=r.get ha
  have hp:ps[i]?=some y:=by
   rw[<- S.pre,List.getElem?_take_of_lt (by lia)];exact h1
  have ndP:ps.Nodup:=by rw[<- S.pre];exact S.nd.sublist (List.take_sublist _ _)
  refine ⟨u,rv,?_⟩
  rcases S.par y (B0 hp) with k|k
  ·exact .inl ⟨k,qH ndP hp hu k⟩
  ·obtain ⟨c,e⟩:=kC (n:=s.heap.objs.size+1) k
   refine .inr ⟨.inl k,c,e,?_⟩
   have q:=x.cell y c e
   rw[qJ ndP hp hu (by show scope.names.lookup y≠_;rw[k];decide)] at q
   exact q
 ·exact e0.hok.fresh (dX (x.above y c (aq h)))
 ·unfold start
  show _=N.length
  rw[t8,b9,J7]
  lia
theorem Cs {CX:yI}{mg:Str->Option d6}{base:Heap}{k:Nat}{f:Addr}{name qual:Str}{params:cq}{body:List Stmt}{scope:N3}{dV kV doc pm cdv ct oc:d6}{an od:Option Addr}
  {osl:Array (Option d6)}{N:List Str}{sp:Sp} (lk:K.lookup f=some ⟨oc,od,.func (fg name qual params body scope dV kV doc pm an cdv ct),osl⟩) (hcd:iU K cdv qual=true) (S:C3 N ps scope)
  (len:∀vs H Q E,sp vs H Q E->vs.length=ps.length)
  (hbody:∀(A:v7) (outer:List Env) (s:d7) (H:Hp) (vs:List V) (Q:VK) (E:XK),bg k (A.deeper (W1 qual scope s.heap.objs.size f cdv))->sp vs H Q E ->
   ∃t,pM (eX CX P w K mg base N qual scope f cdv A outer s H E) body t/\t { nx:=fun _ H'=>Q .non H',rt:=Q } (start N vs) H):
  M0 P w K mg base CX (k+1) f (fg name qual params body scope dV kV doc pm an cdv ct) ps sp:=by
 refine ⟨len,fun A outer s H args us vs Q E hr e0 hb r hsp=>?_⟩
 have hl:=len _ _ _ _ hsp
 have KX:K.In s.heap:=e0.mod.kin.keeps fun b o e=>(e0.bs b o e).1
 have lim:s.heap.NoLimit:=e0.mod.nolimit.keeps fun b o e=>(e0.bs b o e).1
 have hkind:∀y∈ps.zip us,scope.names.lookup y.1=some .local ∨ (scope.names.lookup y.1=some .cell/\((O0 (s.heap.objs.size+1) scope.names []).lookup y.1).isSome=true):=fun ⟨n,v⟩ hy=>by
  rcases S.par n (iX hy).1 with q|q
  ·exact .inl q
  ·exact .inr ⟨q,qY _ _ _ (.inl q)⟩
 refine Fg hr.depth (KX _ _ lk) rfl S.co S.gen rfl (W.codeRec_of KX hcd) (hb _ _ _ _ ?_)
 refine yK S.kind hkind fun env he s1 x=>?_
 subst he
 refine ⟨lim.keeps x.toInCall.keep,codeAny_func ?_⟩
 obtain ⟨t,ht,hq⟩:=hbody A outer s H vs Q E (hr.deeper _) hsp
 have I:C6 (eX CX P w K mg base N qual scope f cdv A outer s H E) [] (start N vs) H s1:=qy S hr.hd e0 hl r x
 refine F0 (ht [] s1 (start N vs) H _ I hq) (fun fl s' hs=>?_) fun e s' hs=>hs
 have fin:∀{σ':St}{H':Hp}{v:V}{u:d6},C6 (eX CX P w K mg base N qual scope f cdv A outer s H E) [] σ' H' s'->G8 v u->Q v H'->CE outer P w H s Q u s' :=
  fun {σ' H' v u} J rv q=>⟨v,H',J.os,J.bare,J.base,J.hok,rv,q⟩
 cases fl with
 | ret u =>
  obtain ⟨v,σ',H',J,rv,q⟩:=hs
  exact fin J rv q
 | next =>
  obtain ⟨σ',H',J,q⟩:=hs
  exact fin (v:=V.non) (u:=D9) J rfl q
 | brk =>
  obtain ⟨_,_,_,q⟩:=hs
  exact E2 q
 | cont =>
  obtain ⟨_,_,_,q⟩:=hs
  exact E2 q
section
variable {X:Cx}{x:Str}{p pos:Pos}{e:Expr}{es:List Expr}{t:TA}{id T:String}{r:List V->Hp->VK->Prop}
noncomputable def tCB (r:List V->Hp->VK->Prop) (t:TA):TE:=fun σ H Q=>t σ H fun vs H1=>r vs H1 Q
theorem t7 (hc:bp X (.builtin id) r) (hg:Gl X x) (hm:X.mg x=none) (hv:V4 x=some (.builtin id)) (ha:PA X (e::es) t) (hn:x≠"__name__":=by decide) (hdb:(x == ("__debug__":Str))=false:=by decide)
  (he:w6 (e::es) X.env=(false,eval e X.env)::w6 es X.env:=by rfl) (hpl:(S9 pos (w6 es X.env)).any (·.1)=false:=by rfl):PE X (.Call (.Name x p) (e::es) [] pos) (tCB r t):=by
 intro pins s σ H Q I h
 refine Y9 (lu I hg hm hv ?_ hn hdb)
 exact PyProof.Rows.callWith_builtin1 (Q9 (ha pos pins s σ H _ I h) fun us s1 ⟨vs,H1,I1,r1,q1⟩=>hc pins s1 σ H1 vs us Q I1 r1 q1) he hpl
theorem E6 (hc:bp X (.type T) r) (hg:Gl X x) (hm:X.mg x=none) (hv:V4 x=some (.type T)) (ha:PA X (e::es) t) (hn:x≠"__name__":=by decide) (hdb:(x == ("__debug__":Str))=false:=by decide)
  (he:w6 (e::es) X.env=(false,eval e X.env)::w6 es X.env:=by rfl) (hpl:(S9 pos (w6 es X.env)).any (·.1)=false:=by rfl):PE X (.Call (.Name x p) (e::es) [] pos) (tCB r t):=by
 intro pins s σ H Q I h
 refine Y9 (lu I hg hm hv ?_ hn hdb)
 exact cm (Q9 (ha pos pins s σ H _ I h) fun us s1 ⟨vs,H1,I1,r1,q1⟩=>hc pins s1 σ H1 vs us Q I1 r1 q1) he hpl
end
end L2
namespace HT
open PySem PyProof.Rows
noncomputable def N0:List Int->List Int->Bool
 | [],[]=>false
 | [],_::_=>true
 | _::_,[]=>false
 | x::xs,y::ys=>if x=y then N0 xs ys else decide (x<y)
theorem V8 (x y:Int) (xs ys:List Int):N0 (x::xs) (y::ys)=if x=y then N0 xs ys else decide (x<y):=rfl
theorem iu (y:Int) (ys:List Int):N0 [] (y::ys)=true:=rfl
theorem dm (x:Int) (xs:List Int):N0 (x::xs) []=false:=rfl
section
open PySem.SeqAt
open PySem.AutoSeq1 (wpAny_loadPart')
open PySem.MeetsSeq PySem.MeetsSeq2 PySem.MeetsSeq3
end
section
variable {prog:j9}{w:t9}{A:v7}{E:d6->d7->Prop}{s:d7}
theorem ET {t b:Addr}{vs ws:List d6}{Q:d6->d7->Prop} (ht:Ds s.heap t vs.toArray) (hb:Ds s.heap b ws.toArray) (hv:vs≠[])
  (h1:ws=[]->Q (.ref t) s) (h2:ws≠[]->Q (.ref s.heap.objs.size) { s with heap:=s.heap.push { cls:=.type "tuple",data:=.seq (vs++ws).toArray } })
  (hsz:vs.length+ws.length<=i7):r0 (y6 prog w) A (R1 .Add (.ref t) (.ref b)) Q E s:=by
 obtain ⟨⟨cls,dd,data,sl⟩,ho,hc,n,hd⟩:=id ht
 obtain ⟨⟨cls2,dd2,data2,sl2⟩,ho2,hc2,n2,hd2⟩:=id hb
 simp only at hc hd hc2 hd2
 subst hc hd hc2 hd2
 have e:vs.toArray++ws.toArray=(vs++ws).toArray:=by simp
 by_cases hw:ws=[]
 ·exact DK ⟨_,ho,rfl⟩ ⟨_,ho2,rfl⟩ tw Ah gx fh (eJ _ _)
   (tuple_addW1 t b vs.toArray ws.toArray n n2 dd dd2 sl sl2 (by simpa using hv) (by simp[hw])) ⟨ho,ho2,h1 hw⟩
 ·refine DK ⟨_,ho,rfl⟩ ⟨_,ho2,rfl⟩ tw Ah gx fh (eJ _ _)
   (tuple_addW2 t b vs.toArray ws.toArray n n2 dd dd2 sl sl2 (by simpa using hv) (by simpa using hw) (by rw[n6,n6];exact hsz)) ⟨ho,ho2,?_⟩
  rw[e]
  exact h2 hw
noncomputable def bK (n d:Nat):Option Int->Nat
 | none=>d
 | some v=>if v<0 then (v+(n:Int)).toNat else min v.toNat n
theorem tW (n d:Nat):bK n d none=d:=rfl
theorem xG (n d k:Nat):bK n d (some (k:Int))=min k n:=by
 show (if (k:Int)<0 then ((k:Int)+(n:Int)).toNat else min (k:Int).toNat n)=min k n
 rw[if_neg (by lia),Q8]
theorem GJ (n d:Nat) (hd:d<=n) (o:Option Int):bK n d o<=n:=by
 cases o with
 | none=>exact hd
 | some v =>
  show (if v<0 then (v+(n:Int)).toNat else min v.toNat n)<=n
  by_cases hv:v<0
  ·rw[if_pos hv];lia
  ·rw[if_neg hv];exact Nat.min_le_right _ _
theorem yA (v:Int) (n d:Nat):(if v<0 then max (v+(n:Int)) 0 else min v (n:Int))=((bK n d (some v):Nat):Int):=by
 show (if v<0 then max (v+(n:Int)) 0 else min v (n:Int))=(((if v<0 then (v+(n:Int)).toNat else min v.toNat n):Nat):Int)
 by_cases hv:v<0
 ·simp only[if_pos hv];lia
 ·simp only[if_neg hv];lia
theorem xg (lo hi:Option Int) (n:Nat):R4 lo hi 1 (n:Int)=(((bK n 0 lo:Nat):Int),((bK n n hi:Nat):Int)):=by
 have h1:¬ ((1:Int)<0):=by lia
 unfold R4
 simp only[h1,if_false]
 refine Prod.ext ?_ ?_
 ·cases lo with
  | none=>rfl
  | some v=>exact yA v n 0
 ·cases hi with
  | none=>rfl
  | some v=>exact yA v n n
theorem wt (i j:Nat):F5 (i:Int) (j:Int) 1=j - i:=by
 unfold F5
 have h1:(1:Int) > 0:=by lia
 simp only[h1,if_true,Lg]
 split <;> lia
theorem nB {v:d6}{o:Option Int}{Q:Option Int->d7->Prop} (p:mi v o) (h:Q o s):r0 (y6 prog w) A (Builtin.Slice.slicePartIndex v) Q E s:=by
 cases p with
 | none=>exact me h
 | int i t=>exact slicePart_int h
theorem eU {sl:Addr}{vl vu:d6}{lo hi:Option Int}{n:Nat}{Q:Int × Int × Nat->d7->Prop} (hs:s.heap.IsSliceOf sl vl vu .none) (pl:mi vl lo) (pu:mi vu hi)
  (h:Q (((bK n 0 lo:Nat):Int),1,bK n n hi - bK n 0 lo) s):r0 (y6 prog w) A (cy (.ref sl) (pure (n:Int))) Q E s:=by
 obtain ⟨os,hos,hcs,hds⟩:=id hs
 unfold cy lJ
 refine b8 (b8 (D3 hos hds (x:=vl) rfl (b8 (D3 hos hds (x:=vu) rfl (b8 (D3 hos hds (x:=.none) rfl (i8 ?_)))))))
 refine b8 (me ?_)
 show r0 _ _ (if ((1:Int) == 0)=true then _ else _) _ _ s
 rw[if_neg (by decide)]
 refine b8 (nB pl (b8 (nB pu (b8 (i8 ?_)))))
 show r0 _ _ (match R4 lo hi 1 (n:Int) with | (lo,hi)=>pure (lo,(1:Int),F5 lo hi 1)) _ _ s
 rw[xg lo hi n]
 show r0 _ _ (pure (((bK n 0 lo:Nat):Int),(1:Int),F5 ((bK n 0 lo:Nat):Int) ((bK n n hi:Nat):Int) 1)) _ _ s
 rw[wt]
 exact i8 h
theorem Bq (xs:Array d6) (i k:Nat):((D4 k).filterMap fun (m:Nat)=>xs[((i:Int)+(m:Int)*1).toNat]?).toArray=((xs.toList.drop i).take k).toArray:=by
 have e:(fun (m:Nat)=>xs[((i:Int)+(m:Int)*1).toNat]?)=fun m=>xs[i+m]?:=by
  funext m
  have:((i:Int)+(m:Int)*1).toNat=i+m:=by lia
  rw[this]
 rw[e]
 have:=pick_run xs i k
 rw[List.filterMap_map] at this
 have e2:((fun x=>xs[x]?) ∘ fun x=>i+x)=fun m=>xs[i+m]?:=rfl
 rw[e2] at this
 rw[this]
theorem kq {t sl:Addr}{items:Array d6}{vl vu:d6}{lo hi:Option Int}{Q:d6->d7->Prop} (ht:Ds s.heap t items) (hs:s.heap.IsSliceOf sl vl vu .none) (pl:mi vl lo) (pu:mi vu hi)
  (hw:¬ (bK items.size 0 lo=0/\bK items.size items.size hi=items.size))
  (h:Q (.ref s.heap.objs.size) { s with heap:=s.heap.push { cls:=.type "tuple",data:=.seq ((items.toList.drop (bK items.size 0 lo)).take (bK items.size items.size hi - bK items.size 0 lo)).toArray } })
  (hsz:items.size<=i7):r0 (y6 prog w) A (dN (.ref t) (.ref sl)) Q E s:=by
 have htake:sizeOk (.seq ((items.toList.drop (bK items.size 0 lo)).take (bK items.size items.size hi - bK items.size 0 lo)).toArray):=by
  show ((items.toList.drop (bK items.size 0 lo)).take (bK items.size items.size hi - bK items.size 0 lo)).toArray.size<=i7
  rw[n6,A4,cG,U8]
  lia
 have hj:bK items.size items.size hi<=items.size:=GJ _ _ (i9 _) hi
 obtain ⟨os,hos,hcs,hds⟩:=id hs
 have hTs:s.TypeIs (.ref sl) "slice":=⟨os,hos,hcs⟩
 unfold dN
 try with_reducible refine O5 ?_
 first|refine b8 (i8 ?_)|skip
 refine b8 (qN ht.typeIs (by decide) ?_)
 refine b8 (G2 (name:=U3 "__getitem__") ht.typeIs I0
  (M7 I0 ht.typeIs mP ?_ (oZ _ _)))
 show r0 _ _ (cx (.ref t) >>= _) _ _ s
 refine b8 (Af ht ?_)
 refine b8 (qM hTs ?_)
 rw[if_pos (by decide)]
 refine b8 (eU hs pl pu ?_)
 have hno:¬ ((((bK items.size 0 lo:Nat):Int) == 0&&(1:Int) == 1&&(bK items.size items.size hi - bK items.size 0 lo) == items.size)=true):=by
  intro q
  rw[A6,A6] at q
  have q1:((bK items.size 0 lo:Nat):Int)=0:=eq_of_beq q.1.1
  have q2:bK items.size items.size hi - bK items.size 0 lo=items.size:=eq_of_beq q.2
  exact hw ⟨by lia,by lia⟩
 show r0 _ _ (if (((bK items.size 0 lo:Nat):Int) == 0&&(1:Int) == 1&&(bK items.size items.size hi - bK items.size 0 lo) == items.size)=true then _ else _) _ _ s
 rw[if_neg hno,Bq]
 first
  | exact b8 (m:=G3 _) (C9 (i8 ⟨_,rfl,i8 h⟩) htake)
  | exact b8 (m:=G3 _) (C9 (b8 (i8 (i8 ⟨_,rfl,i8 h⟩))) htake)
  | exact b8 (b8 (m:=G3 _) (C9 (i8 (i8 ⟨_,rfl,i8 h⟩)) htake))
  | exact b8 (b8 (m:=G3 _) (C9 (i8 ⟨_,rfl,i8 h⟩) htake))
end
end HT
namespace L2
open PySem PySem.Spec PyProof.Rows
noncomputable abbrev TO:=St->Hp->(Option Int->Hp->Prop)->Prop
noncomputable def PO (X:Cx) (e:Option Expr) (t:TO):Prop :=
 ∀(pins:List (Addr × Obj)) (s:d7) (σ:St) (H:Hp) (Q:Option Int->Hp->Prop),C6 X pins σ H s->t σ H Q ->
  r0 (y6 X.prog X.w) X.A (evalPart e X.env) (fun u s'=>∃o H',C6 X pins σ H' s'/\mi u o/\Q o H') X.xe s
noncomputable def R7:TO:=fun _ H Q=>Q none H
noncomputable def aL (t:TE):TO:=fun σ H Q=>t σ H fun x H1=>∃i,x=.int i/\Q (some i) H1
theorem wV {ns:List Int}:∀{us:List d6},F2 (ns.map V.int) us->fj us ns:=by
 induction ns with
 | nil=>intro us r;rw[mD] at r;cases r;exact .nil
 | cons n ns ih =>
  intro us r
  rw[B9] at r
  cases r with
  | cons r1 r2 =>
   obtain ⟨t,e⟩:=r1
   subst e
   exact .cons n t (ih r2)
section
variable {X:Cx}{e:Expr}{te:TE}{lo hi:Option Expr}{tl th:TO}{pos p2:Pos}
theorem L6:PO X none R7:=by
 intro pins s σ H Q I h
 rw[Ai]
 exact i8 ⟨none,H,I,.none,h⟩
theorem L5 (h:PE X e te):PO X (some e) (aL te):=by
 intro pins s σ H Q I hw
 rw[evalPart_some]
 refine Q9 (h pins s σ H _ I hw) fun u s1 ⟨x,H1,I1,r1,q1⟩=>?_
 obtain ⟨i,rfl,q⟩:=q1
 obtain ⟨t,rfl⟩:=r1
 exact ⟨some i,H1,I1,.int i t,q⟩
noncomputable def KL (X:Cx) (r:V->Option Int->Option Int->Hp->VK->Prop):Prop :=
 ∀(pins:List (Addr × Obj)) (s:d7) (σ:St) (H:Hp) (x:V) (v vl vu:d6) (lo hi:Option Int) (sl:Addr) (Q:VK),C6 X pins σ H s->G8 x v->s.heap.IsSliceOf sl vl vu .none->mi vl lo->mi vu hi->r x lo hi H Q ->
  ∃T id,IQ (.type T) "__getitem__"=pure (some (.builtin id))/\s.TypeIs v T/\r0 (y6 X.prog X.w) X.A (dN v (.ref sl)) (EP X pins σ Q) X.xe s
noncomputable def tj (r:V->Option Int->Option Int->Hp->VK->Prop) (te:TE) (tl th:TO):TE:=fun σ H Q=>te σ H fun x H1=>tl σ H1 fun l H2=>th σ H2 fun u H3=>r x l u H3 Q
theorem G0 {r:V->Option Int->Option Int->Hp->VK->Prop} (hr:KL X r) (he:PE X e te) (hl:PO X lo tl) (hu:PO X hi th):PE X (.Subscript e (.Slice lo hi none p2) pos) (tj r te tl th):=by
 intro pins s σ H Q I h
 refine yS (Q9 (he pins s σ H _ I h) fun v s1 ⟨x,H1,I1,r1,q1⟩=>?_)
 refine wpAny_Slice (Q9 (hl pins s1 σ H1 _ I1 q1) fun vl s2 ⟨l,H2,I2,pl,q2⟩=>Q9 (hu pins s2 σ H2 _ I2 q2) fun vu s3 ⟨u,H3,I3,pu,q3⟩=>?_)
 rw[Ai]
 refine i8 ?_
 have I4:C6 X pins σ H3 { s3 with heap:=s3.heap.push { cls:=.type "slice",data:=.fields #[vl,vu,.none] } }:=I3.kept (t':=s3.toks) fun b ob q=>f9 _ q
 obtain ⟨T,id,hT,ht,hg⟩:=hr pins { s3 with heap:=s3.heap.push { cls:=.type "slice",data:=.fields #[vl,vu,.none] } } σ H3 x v vl vu l u s3.heap.objs.size Q I4 r1 (pQ ..) pl pu q3
 show r0 (y6 X.prog X.w) X.A (oM e (.Slice lo hi none p2) v (.ref s3.heap.objs.size)) (EP X pins σ Q) X.xe { s3 with heap:=s3.heap.push { cls:=.type "slice",data:=.fields #[vl,vu,.none] } }
 exact tail_any (ops:=[.ref s3.heap.objs.size,v]) ht hT hg (by with_unfolding_all rfl)
noncomputable def gC (xs:List V) (lo hi:Option Int):List V:=(xs.drop (HT.bK xs.length 0 lo)).take (HT.bK xs.length xs.length hi - HT.bK xs.length 0 lo)
theorem U9 (xs:List V) (lo hi:Option Int):(gC xs lo hi).length<=xs.length:=by
 unfold gC
 rw[A4,cG]
 lia
noncomputable def rSlT (K:m9):V->Option Int->Option Int->Hp->VK->Prop:=fun x lo hi H Q=>∃a xs,x=.ref a/\aQ K H a xs /\
 ¬ (HT.bK xs.length 0 lo=0/\HT.bK xs.length xs.length hi=xs.length)/\∀p,H p=none->Q (.ref p) (t6 H p (.tup (gC xs lo hi)))
theorem Gv:KL X (rSlT X.K):=by
 intro pins s σ H x v vl vu lo hi sl Q I rx hs pl pu h
 obtain ⟨a,xs,rfl,hx,hw,q⟩:=h
 cases rx
 obtain ⟨its,r,ht,hz⟩:=I.tuple hx
 have hlen:its.toArray.size=xs.length:=by rw[n6];exact r.length.symm
 refine ⟨"tuple",_,PyProof.Rows.slot_tuple_getitem.lookup,ht.typeIs,?_⟩
 refine HT.kq ht hs pl pu (by rw[hlen];exact hw) ?_ (by rw[hlen];exact hz)
 rw[hlen]
 refine ⟨.ref s.heap.objs.size,_,I.laid (t':=s.toks) (o:=.tup (gC xs lo hi)) (fun b ob q=>f9 _ q) (i9 _) ?_,rfl,q _ (I.hok.fresh (i9 _))⟩
 exact ⟨⟨m8 (U9 xs lo hi) hz,⟨_,q9 _ rfl,rfl⟩⟩,_,(r.drop (HT.bK xs.length 0 lo)).take (HT.bK xs.length xs.length hi - HT.bK xs.length 0 lo),cu _ _⟩
noncomputable def JB (K:m9):R2:=fun x y H Q=>∃a b xs ys,x=.ref a/\y=.ref b/\aQ K H a xs/\aQ K H b ys/\xs≠[]/\xs.length+ys.length<=i7 /\
 (ys=[]->Q (.ref a) H)/\(ys≠[]->∀p,H p=none->Q (.ref p) (t6 H p (.tup (xs++ys))))
theorem F2.nil_iff {xs:List V}{us:List d6} (r:F2 xs us):us=[] ↔ xs=[]:=by
 cases r with
 | nil=>simp
 | cons _ _=>simp
theorem Es:gK X (R1 .Add) (JB X.K):=by
 intro pins s σ H x y v u Q I rx ry h
 obtain ⟨a,b,xs,ys,rfl,rfl,ha,hb,hx,hz,q1,q2⟩:=h
 cases rx
 cases ry
 obtain ⟨its,r1,p1,_⟩:=I.tuple ha
 obtain ⟨its2,r2,p2,_⟩:=I.tuple hb
 refine HT.ET p1 p2 (fun z=>hx (r1.nil_iff.mp z)) (fun z=>⟨.ref a,H,I,rfl,q1 (r2.nil_iff.mp z)⟩) (fun z=>?_) (by rw[<- r1.length,<- r2.length];exact hz)
 refine ⟨.ref s.heap.objs.size,_,I.laid (t':=s.toks) (o:=.tup (xs++ys)) (fun b ob q=>f9 _ q) (i9 _) ?_,rfl,q2 (fun w=>z (r2.nil_iff.mpr w)) _ (I.hok.fresh (i9 _))⟩
 exact ⟨⟨by rw[t8];exact hz,⟨_,q9 _ rfl,rfl⟩⟩,_,r1.append r2,cu _ _⟩
end
noncomputable def EI (n:Nat) (i:Int):Option Nat:=if 0<=i then (if i<n then some i.toNat else none) else if -(n:Int)<=i then some (i+n).toNat else none
noncomputable def EV {α:Type} (xs:List α) (i:Int):Option α:=(EI xs.length i).bind fun j=>xs[j]?
theorem yg {n:Nat}{i:Int}{j:Nat} (h:EI n i=some j):seqIndex? i n=some j/\j<n/\-(n:Int)<=i/\i<n:=by
 unfold EI at h
 by_cases h0:0<=i
 ·rw[if_pos h0] at h
  by_cases h1:i<n
  ·rw[if_pos h1] at h
   have e:i.toNat=j:=D1 h
   exact ⟨by rw[FV h0 h1,e],by lia,by lia,h1⟩
  ·rw[if_neg h1] at h;cases h
 ·rw[if_neg h0] at h
  by_cases h1:-(n:Int)<=i
  ·rw[if_pos h1] at h
   have e:(i+n).toNat=j:=D1 h
   exact ⟨by rw[DG (by lia) h1,e],by lia,h1,by lia⟩
  ·rw[if_neg h1] at h;cases h
theorem yD {α:Type}{xs:List α}{i:Int}{v:α} (h:EV xs i=some v):∃j,seqIndex? i xs.length=some j/\xs[j]?=some v/\j<xs.length/\-(xs.length:Int)<=i/\i<xs.length:=by
 unfold EV at h
 cases e:EI xs.length i with
 | none=>rw[e] at h;cases h
 | some j =>
  rw[e] at h
  obtain ⟨h1,h2,h3,h4⟩:=yg e
  exact ⟨j,h1,h,h2,h3,h4⟩
theorem C8 {α:Type}{xs:List α}{j:Nat}{v:α} (h:xs[j]?=some v):EV xs (j:Int)=some v:=by
 have hj:j<xs.length:=(List.getElem?_eq_some_iff.mp h).1
 have e:EI xs.length (j:Int)=some j:=by
  unfold EI
  rw[if_pos (by lia),if_pos (by lia)];simp
 unfold EV;rw[e];exact h
noncomputable def yF (b:Expr):Prop:=∀o i,vk b false o i=operate [o,i] (dN o i)
noncomputable def Kk (X:Cx) (r:R2):Prop :=
 ∀(value slice:Expr) (pins:List (Addr × Obj)) (s:d7) (σ:St) (H:Hp) (x y:V) (v u:d6) (Q:VK),C6 X pins σ H s->G8 x v->G8 y u->r x y H Q ->
  vk slice false v u=operate [v,u] (dN v u)->r0 (y6 X.prog X.w) X.A (oM value slice v u) (EP X pins σ Q) X.xe s
noncomputable def Kg (X:Cx) (id:String) (r:V->List V->Hp->VK->Prop):Prop :=
 ∀(pins:List (Addr × Obj)) (s:d7) (σ:St) (H:Hp) (x:V) (xs:List V) (v:d6) (us:List d6) (Q:VK),C6 X pins σ H s->G8 x v->F2 xs us->r x xs H Q ->
  r0 (y6 X.prog X.w) X.A (call (.builtin id) (v::us)) (EP X pins σ Q) X.xe s
section
variable {X:Cx}{a b:Expr}{ta tb:TE}{pos:Pos}
theorem G1 {r:R2} (hr:Kk X r) (ha:PE X a ta) (hb:PE X b tb) (hs:yF b):PE X (.Subscript a b pos) (fe r ta tb):=by
 intro pins s σ H Q I h
 exact yS (Ik ha hb I h fun v u s2 x y H2 I2 rx ry q=>hr a b pins s2 σ H2 x y v u Q I2 rx ry q (hs _ _))
noncomputable def Ef (K:m9):R2:=fun x y H Q=>∃p xs i v,x=.ref p/\y=.int i/\dC K H p xs/\EV xs i=some v/\Q v H
noncomputable def GN (K:m9):R2:=fun x y H Q=>∃p xs i v,x=.ref p/\y=.int i/\aQ K H p xs/\EV xs i=some v/\Q v H
theorem O7:Kk X (Ef X.K):=by
 intro value slice pins s σ H x y v u Q I rx ry h hs
 obtain ⟨p,xs,i,z,rfl,rfl,hq,he,q⟩:=h
 cases rx
 obtain ⟨t,rfl⟩:=ry
 obtain ⟨its,r,pl,hz⟩:=I.list hq
 obtain ⟨j,h1,h2,h3,h4,h5⟩:=yD he
 obtain ⟨w,ew,rw'⟩:=r.get h2
 have hl:=r.length
 have hn:=sr
 have fin:EP X pins σ Q w s:=⟨z,H,I,rw',q⟩
 by_cases h0:0<=i
 ·have hj:i.toNat=j:=by
   rw[FV h0 h5] at h1
   exact D1 h1
  exact item_listR pl.isList h0 (by lia) (by rw[hj];simpa using ew) fin hs
 ·have hj:(i+(its.toArray.size:Int)).toNat=j:=by
   rw[DG (by lia) h4] at h1
   rw[n6,<- hl]
   exact D1 h1
  exact DF (x:=w) pl.isList.typeIs slot_list_getitem.lookup
   (wpAny_getItem_list_neg (Q:=fun r s'=>r=w/\EP X pins σ Q r s') pl.isList (by lia) (by rw[n6] <;> lia) (by lia) (by rw[hj];simpa using ew) ⟨rfl,fin⟩) hs
theorem N2:Kk X (GN X.K):=by
 intro value slice pins s σ H x y v u Q I rx ry h hs
 obtain ⟨p,xs,i,z,rfl,rfl,hq,he,q⟩:=h
 cases rx
 obtain ⟨t,rfl⟩:=ry
 obtain ⟨its,r,pl,hz⟩:=I.tuple hq
 obtain ⟨j,h1,h2,h3,h4,h5⟩:=yD he
 obtain ⟨w,ew,rw'⟩:=r.get h2
 have hl:=r.length
 have hn:=sr
 have fin:EP X pins σ Q w s:=⟨z,H,I,rw',q⟩
 exact DF (x:=w) pl.typeIs slot_tuple_getitem.lookup
  (getItem_tuple (j:=j) (Q:=fun r s'=>r=w/\EP X pins σ Q r s') pl (by lia) (by lia) (by rw[n6,<- hl];exact h1) (by simpa using ew) ⟨rfl,fin⟩) hs
theorem wO (its:List d6) (n j:Nat) (u:d6):X6 (·.setIfInBounds j u) { cls:=.type "list",data:=.seq its.toArray n }={ cls:=.type "list",data:=.seq (its.set j u).toArray n }:=by
 simp[X6]
theorem C6.lst {pins:List (Addr × Obj)}{σ:St}{H:Hp}{s:d7}{p:Addr}{xs:List V} (I:C6 X pins σ H s) (h:H p=some (.lst xs)):
  ∃(its:List d6) (n:Nat),F2 xs its/\s.heap.get? p=some { cls:=.type "list",data:=.seq its.toArray n }/\xs.length<=i7:=by
 obtain ⟨z,its,n,r,e⟩:=I.hok p _ h
 exact ⟨its,n,r,e,z⟩
theorem C6.lstUpd {pins:List (Addr × Obj)}{σ:St}{H:Hp}{s:d7}{p:Addr}{xs ys:List V}{its its':List d6}{n n':Nat}{f:Obj->Obj} (I:C6 X pins σ H s) (h:H p=some (.lst xs))
  (ho:s.heap.get? p=some { cls:=.type "list",data:=.seq its.toArray n }) (hf:f { cls:=.type "list",data:=.seq its.toArray n }={ cls:=.type "list",data:=.seq its'.toArray n' }) (r:F2 ys its') (hz:ys.length<=i7) (t:Nat):
  C6 X pins σ (t6 H p (.lst ys)) { s with heap:=s.heap.update p f,toks:=t }:=by
 have e:(s.heap.update p f).get? p=some { cls:=.type "list",data:=.seq its'.toArray n' }:=by
  rw[Y7 f ho (by rw[hf] <;> rfl),hf]
 refine I.write (x:=p) (e:=p) (by rw[h];trivial) (.inl rfl) (fun b u hb q=>(K8 _ _ (M3 hb)).trans q) ⟨_,e⟩ ?_
 exact ⟨hz,its',n',r,e⟩
noncomputable def Jv:V->V->V->Hp->(Hp->Prop)->Prop:=fun o i v H Q=>∃p xs k j,o=.ref p/\i=.int k/\H p=some (.lst xs)/\EI xs.length k=some j/\Q (t6 H p (.lst (xs.set j v)))
theorem jT:Kc X Jv:=by
 intro pins s σ H o i v ov iv u Q I ro ri rv h
 obtain ⟨p,xs,k,j,rfl,rfl,hp,hj,q⟩:=h
 cases ro
 obtain ⟨t,rfl⟩:=ri
 obtain ⟨its,n,r,ho,hz⟩:=I.lst hp
 obtain ⟨h1,h2,h3,h4⟩:=yg hj
 have hl:=r.length
 have hn:=sr
 have I':C6 X pins σ (t6 H p (.lst (xs.set j v))) { s with heap:=s.heap.update p (X6 (·.setIfInBounds j u)) } :=
  I.lstUpd hp ho (wO its n j u) (r.set rv j) (by rw[T6];exact hz) s.toks
 by_cases h0:0<=k
 ·have hk:k.toNat=j:=by
   rw[FV h0 h4] at h1
   exact D1 h1
  exact W.ki_setAt ho h0 (by lia) (by rw[n6,<- hl];exact h4) (by rw[hk];exact ⟨_,I',q⟩)
 ·have hk:(k+(its.toArray.size:Int)).toNat=j:=by
   rw[DG (by lia) h3] at h1
   rw[n6,<- hl]
   exact D1 h1
  exact W.ki_setBack ho (by lia) (by rw[n6,<- hl];exact h3) (by lia) (by rw[hk];exact ⟨_,I',q⟩)
theorem B7:bp X (.builtin "len") (fun xs H Q=>∃p ys,xs=[.ref p]/\(dC X.K H p ys ∨ aQ X.K H p ys)/\Q (.int ys.length) H):=by
 intro pins s σ H xs us Q I r h
 obtain ⟨p,ys,rfl,hq,q⟩:=h
 obtain ⟨u,rfl,rx⟩:=jf r
 cases rx
 have hn:=sr
 rcases hq with hq|hq
 ·obtain ⟨its,r',pl,hz⟩:=I.list hq
  have hlen:=r'.length
  exact Calls.call_len_list pl.isList (by simp only[n6] <;> lia) ⟨.int ys.length,H,I.tok _,⟨s.toks+1,by rw[n6,hlen]⟩,q⟩
 ·obtain ⟨its,r',pl,hz⟩:=I.tuple hq
  have hlen:=r'.length
  exact len_tuple pl (by simp only[n6] <;> lia) ⟨.int ys.length,H,I.tok _,⟨s.toks+1,by rw[n6,hlen]⟩,q⟩
theorem cQ:bp X (.type "list") (fun xs H Q=>∃p ys,xs=[.ref p]/\(dC X.K H p ys ∨ aQ X.K H p ys)/\∀l,H l=none->Q (.ref l) (t6 H l (.lst ys))):=by
 intro pins s σ H xs us Q I r h
 obtain ⟨p,ys,rfl,hq,q⟩:=h
 obtain ⟨u,rfl,rx⟩:=jf r
 cases rx
 have fin:∀(its:List d6),F2 ys its->ys.length<=i7->∀(h':Heap) (c':Nat),(∀b o',s.heap.get? b=some o'->h'.get? b=some o') ->
   h'.get? s.heap.objs.size=some { cls:=.type "list",dict:=none,data:=.seq its.toArray c',slots:=#[] }->EP X pins σ Q (.ref s.heap.objs.size) { s with heap:=h' }:=fun its r' hz h' c' kp e =>
  ⟨.ref s.heap.objs.size,_,I.laid (t':=s.toks) kp (i9 _) (show N9 X.prog X.w _ h' _ (.lst ys) from ⟨hz,its,c',r',e⟩),rfl,q _ (I.hok.fresh (i9 _))⟩
 rcases hq with hq|hq
 ·obtain ⟨its,r',pl,hz⟩:=I.list hq
  have hlen:=r'.length
  obtain ⟨o,ho,hc,n,hd⟩:=pl.isList
  exact call_list_seq p (.inl rfl) ho hc hd (fun h' c' kp e=>fin its r' hz h' c' kp e) (by simp only[n6] <;> lia)
 ·obtain ⟨its,r',pl,hz⟩:=I.tuple hq
  have hlen:=r'.length
  obtain ⟨o,ho,hc,n,hd⟩:=pl
  exact call_list_seq p (.inr rfl) ho hc hd (fun h' c' kp e=>fin its r' hz h' c' kp e) (by simp only[n6] <;> lia)
theorem K2:bp X (.type "tuple") (fun xs H Q=>∃p ys,xs=[.ref p]/\((dC X.K H p ys/\∀l,H l=none->Q (.ref l) (t6 H l (.tup ys))) ∨ (aQ X.K H p ys/\Q (.ref p) H))):=by
 intro pins s σ H xs us Q I r h
 obtain ⟨p,ys,rfl,h⟩:=h
 obtain ⟨u,rfl,rx⟩:=jf r
 cases rx
 rcases h with ⟨hq,q⟩|⟨hq,q⟩
 ·obtain ⟨its,r',pl,hz⟩:=I.list hq
  have hlen:=r'.length
  refine call_tuple_list pl.isList (fun h' kp=>?_) (by simp only[n6] <;> lia)
  have I1:C6 X pins σ H { s with heap:=h' }:=I.kept (t':=s.toks) kp
  have I2:C6 X pins σ (t6 H h'.objs.size (.tup ys)) { s with heap:=h'.push { cls:=.type "tuple",data:=.seq its.toArray } } :=
   I1.laid (t':=s.toks) (fun b o e=>f9 _ e) (i9 _) (show N9 X.prog X.w _ _ _ (.tup ys) from ⟨⟨hz,⟨_,q9 _ rfl,rfl⟩⟩,its,r',cu _ _⟩)
  exact ⟨.ref h'.objs.size,_,I2,rfl,q _ (I1.hok.fresh (i9 _))⟩
 ·obtain ⟨its,r',pl,hz⟩:=I.tuple hq
  exact call_tuple_same pl ⟨.ref p,H,I,rfl,q⟩
noncomputable def tyV (K:m9) (T:String) (x:V) (H:Hp):Prop:=match x with
 | .str _=>T="str"
 | .int _=>T="int"
 | .ref p=>(T="list"/\∃xs,dC K H p xs) ∨ (T="tuple"/\∃o,K.lookup p=some o/\o.cls=.type "tuple"/\o.dict=none) ∨
   (T="dict"/\((∃kvs,H p=some (.dK kvs)) ∨ ∃kvs,H p=some (.dT kvs))) ∨ (T="set"/\∃S n,H p=some (.set S n))
 | _=>False
theorem Gf {pins:List (Addr × Obj)}{σ:St}{H:Hp}{s:d7}{T:String}{x:V}{v:d6} (I:C6 X pins σ H s) (r:G8 x v) (ty:tyV X.K T x H):
  s.TypeIs v T/\∀a,v=.ref a->∃ob,s.heap.get? a=some ob/\ob.dict=none:=by
 cases x with
 | str z =>
  obtain ⟨t,rfl⟩:=r
  cases (show T="str" from ty)
  exact ⟨typeIs_str s z t,fun _ e=>nomatch e⟩
 | int i =>
  obtain ⟨t,rfl⟩:=r
  cases (show T="int" from ty)
  exact ⟨bP s i t,fun _ e=>nomatch e⟩
 | ref p =>
  cases r
  rcases ty with ⟨rfl,xs,hq⟩|⟨rfl,o,hk,hc,hd⟩|⟨rfl,hk⟩|⟨rfl,S,n,hk⟩
  ·obtain ⟨its,_,pl,_⟩:=I.list hq
   refine ⟨pl.isList.typeIs,fun a e=>?_⟩
   cases e
   obtain ⟨o,n,e,c,hd,_⟩:=pl
   exact ⟨o,e,hd⟩
  ·refine ⟨⟨o,I.kIn p o hk,hc⟩,fun a e=>?_⟩
   cases e
   exact ⟨o,I.kIn _ o hk,hd⟩
  ·have z:∃o,s.heap.get? p=some o/\o.ExactDict:=by
    rcases hk with ⟨kvs,hk⟩|⟨kvs,hk⟩
    ·obtain ⟨_,_,_,_,o,_,_,e,ex,_⟩:=I.hok p _ hk
     exact ⟨o,e,ex⟩
    ·obtain ⟨_,_,_,_,o,_,_,e,ex,_⟩:=I.hok p _ hk
     exact ⟨o,e,ex⟩
   obtain ⟨o,e,ex⟩:=z
   refine ⟨⟨o,e,ex.1⟩,fun a e2=>?_⟩
   cases e2
   exact ⟨o,e,ex.2.1⟩
  ·obtain ⟨o,_,_,_,e,ex,_⟩:=I.hok p _ hk
   refine ⟨⟨o,e,ex.1⟩,fun a e2=>?_⟩
   cases e2
   exact ⟨o,e,ex.2.1⟩
 | _=>exact E2 ty
noncomputable def tBM (K:m9) (T:String) (r:V->List V->Hp->VK->Prop) (to:TE) (t:TA):TE:=fun σ H Q=>to σ H fun x H1=>tyV K T x H1/\t σ H1 fun xs H2=>r x xs H2 Q
variable {o e:Expr}{es:List Expr}{to:TE}{t:TA}{name:Str}{apos cpos:Pos}{T id:String}{r:V->List V->Hp->VK->Prop}
theorem FD (pa:PlainAttrs T) (slot:Slot T name id) (hty:typeOf (.builtin id)=pure (.type "method_descriptor")) (hm:Kg X id r) (ho:PE X o to) (ha:PA X (e::es) t)
  (hbase:iT o name X.env (eval o X.env)=eval o X.env:=by rfl)
  (hfew:((S9 cpos (w6 (e::es) X.env)).all (fun x=>!x.1)&&(FW cpos (vm [] X.env)).all (fun x=>x.1.isSome)
   && decide ((e::es).length+([]:List iz).length+(if ([]:List iz).isEmpty then 0 else 1)<30))=true:=by rfl)
  (hline:(apos.endLine == cpos.line)=true:=by rfl) (hs:w6 (e::es) X.env=(false,eval e X.env)::w6 es X.env:=by rfl) (hplain:(S9 cpos (w6 es X.env)).any (·.1)=false:=by rfl):
  PE X (.Call (.Attribute o name apos) (e::es) [] cpos) (tBM X.K T r to t):=by
 intro pins s σ H Q I h
 refine DE hbase hfew hline rfl (Q9 (ho pins s σ H _ I h) fun v s1 ⟨x,H1,I1,r1,ty,q1⟩=>?_)
 obtain ⟨h1,h2⟩:=Gf I1 r1 ty
 refine ⟨T,id,pa,slot,hty,h1,h2,?_⟩
 have hA:=ha cpos pins s1 σ H1 _ I1 q1
 rw[hs] at hA ⊢
 refine bA (by show (false || (S9 cpos (w6 es X.env)).any (·.1))=false;rw[hplain] <;> rfl) (cL ?_)
 exact Q9 hA fun us s2 ⟨vs,H2,I2,r2,q2⟩=>hm pins s2 σ H2 x vs v us Q I2 r1 r2 q2
end
noncomputable def MtM (X:Cx) (id:String) (r:V->List V->Hp->VK->Prop):Prop :=
 ∀(pins:List (Addr × Obj)) (s:d7) (σ:St) (H:Hp) (x:V) (xs:List V) (v:d6) (us:List d6) (Q:VK),C6 X pins σ H s->G8 x v->F2 xs us->r x xs H Q ->
  r0 (y6 X.prog X.w) X.A (call (.builtin id) (v::us)) (EP X pins σ Q) X.xe s
theorem F2.one:∀{x:V}{us:List d6},F2 [x] us->∃u,us=[u]/\G8 x u
 | _,_,.cons r .nil=>⟨_,rfl,r⟩
theorem F2.reverse {xs:List V}{us:List d6} (h:F2 xs us):F2 xs.reverse us.reverse:=by
 induction h with
 | nil=>exact .nil
 | cons r t ih=>rw[mB,mB];exact F2.append ih (.cons r .nil)
section
variable {X:Cx}{pins:List (Addr × Obj)}{σ:St}{H:Hp}{s:d7}{l b:Addr}{xs ys zs:List V}
theorem C6.lset {its its':List d6}{n:Nat}{f:Array d6->Array d6}{t':Nat} (I:C6 X pins σ H s) (hH:H l=some (.lst xs))
  (e:s.heap.get? l=some { cls:=.type "list",data:=.seq its.toArray n }) (hf:f its.toArray=its'.toArray) (hv:F2 ys its') (hz:ys.length<=i7):
  C6 X pins σ (t6 H l (.lst ys)) { s with heap:=s.heap.update l (X6 f),toks:=t' }:=by
 have q:=PySem.IsL.update e f
 rw[hf] at q
 refine I.write (x:=l) (e:=l) (by rw[hH];exact trivial) (.inl rfl) (fun b' u hb hu=>(K8 s.heap (X6 f) (M3 hb)).trans hu) ⟨_,q⟩ ?_
 exact ⟨hz,its',_,hv,q⟩
theorem C6.lnew {its:List d6}{t':Nat} (I:C6 X pins σ H s) (hv:F2 ys its) (hz:ys.length<=i7):
  C6 X pins σ (t6 H s.heap.objs.size (.lst ys)) { s with heap:=s.heap.push { cls:=.type "list",data:=.seq its.toArray },toks:=t' } :=
 I.laid (fun _ _ q=>f9 _ q) (i9 _) ⟨hz,its,0,hv,q9 _ rfl⟩
theorem C6.fresh (I:C6 X pins σ H s):H s.heap.objs.size=none:=I.hok.fresh (i9 _)
theorem C6.lstM (I:C6 X pins σ H s) (hH:H l=some (.lst xs)):xs.length<=i7/\∃(its:List d6) (n:Nat),F2 xs its/\xs.length=its.length/\s.heap.get? l=some { cls:=.type "list",data:=.seq its.toArray n }:=by
 obtain ⟨z,its,n,r,e⟩:=I.hok l _ hH
 exact ⟨z,its,n,r,r.length,e⟩
theorem BP {n:Nat} (h:n<=i7):dB n=false:=by
 unfold dB
 exact decide_eq_false (by lia)
end
section
variable {X:Cx}
noncomputable def Eg:V->List V->Hp->VK->Prop:=fun x vs H Q=>∃l b xs zs,x=.ref l/\vs=[.ref b]/\H l=some (.lst xs)/\H b=some (.lst zs)/\xs.length+zs.length<=i7/\Q .non (t6 H l (.lst (xs++zs)))
theorem zr:MtM X "list.extend" Eg:=by
 intro pins s σ H x vs v us Q I rx rv h
 obtain ⟨l,b,xs,zs,rfl,rfl,hH,hB,hz,q⟩:=h
 cases rx
 obtain ⟨u,rfl,ru⟩:=rv.one
 cases ru
 obtain ⟨z,its,n,r,hl,e⟩:=I.lstM hH
 obtain ⟨z2,its2,n2,r2,hl2,e2⟩:=I.lstM hB
 have hsz:its.toArray.size+its2.toArray.size<=i7:=by rw[n6,n6];lia
 have hlong:¬ (!its.toArray.isEmpty&&dB (its.toArray.size+its2.toArray.size))=true:=by
  rw[BP hsz,bJ]
  exact A3
 refine W2 F.slot_list_extend ⟨_,e,rfl⟩ F.entry_list_extend (F.args_list_extend_2 _ _)
  (AutoSeq1.list_extend_list_list_0 l its.toArray n b its2.toArray n2 hlong (by rw[n6];lia) (by lia)) ⟨e,e2,?_⟩
 refine ⟨.non,_,I.lset (its':=its++its2) hH e (by simp) (r.append r2) ?_,rfl,q⟩
 rw[t8]
 lia
noncomputable def rCat:R2:=fun x y H Q=>∃l b xs zs,x=.ref l/\y=.ref b/\H l=some (.lst xs)/\H b=some (.lst zs)/\xs.length+zs.length<=i7/\∀p,H p=none->Q (.ref p) (t6 H p (.lst (xs++zs)))
theorem lr:gK X (R1 .Add) rCat:=by
 intro pins s σ H x y v u Q I rx ry h
 obtain ⟨l,b,xs,zs,rfl,rfl,hH,hB,hz,q⟩:=h
 cases rx
 cases ry
 obtain ⟨z,its,n,r,hl,e⟩:=I.lstM hH
 obtain ⟨z2,its2,n2,r2,hl2,e2⟩:=I.lstM hB
 refine PySem.P.add_list e e2 ?_ (by rw[n6,n6];lia)
 have ea:its.toArray++its2.toArray=(its++its2).toArray:=by simp
 rw[ea]
 exact ⟨.ref _,_,I.lnew (t':=s.toks) (r.append r2) (by rw[t8];lia),rfl,q _ I.fresh⟩
end
section
variable {prog:j9}{w:t9}{A:v7}{E:d6->d7->Prop}{s:d7}
set_option maxRecDepth 100000 in
end
section
variable {X:Cx}
end
end L2
namespace Att
open PySem PySem.W PySem.Calls PyProof.Rows
theorem mq {P:Params}{h:Heap}:∀(ns:List Int) (vs:List d6),WellAll P h vs (ns.map WData.int)->fj vs ns:=by
 intro ns
 induction ns with
 | nil =>
  intro vs w
  rw[mD] at w
  cases w
  exact .nil
 | cons n ns ih =>
  intro vs w
  rw[B9] at w
  cases w with
  | cons a b =>
   cases a
   exact .cons _ _ (ih _ b)
theorem zf {l:OpenLaw}{n:Nat} (hn:l.most=some n) {P:Params}{h:Heap}{args:List WData}{vals:List d6}
  (hpre:l.row.toRowW.claim.pre args=true) (hwl:WellAll P h vals args):
  ∃a vs ns,vals=[B1 a]/\args=[WData.list (ns.map WData.int)]/\h.get? a=some { cls:=.type "list",data:=.seq vs.toArray }/\fj vs ns/\ns.length<=n:=by
 have hsh:WShape.hasAll [] args [.list .int]=true:=(pre_splitW hpre).1
 have hc:l.pre.holds [] { args:=args }=true:=(pre_splitW hpre).2
 obtain ⟨d,r,rfl,h1,h2⟩:=hasAllW_cons hsh
 obtain rfl:=hasAllW_nil h2
 obtain ⟨xs,rfl,h3⟩:=hasW_list h1
 obtain ⟨ns,rfl⟩:=items_int h3
 have hlen:ns.length<=n:=by
  unfold OpenLaw.pre at hc
  have h4:(WTm.not (.lt (.lit (.int (n:Int))) (.len (.arg 0)))).holds [] { args:=[.list (ns.map .int)] }=true:=by
   have h4:=(holds_andW hc).1
   rw[hn] at h4
   exact h4
  have h5:=condW_of h4 (w_not (w_lt w_lit (w_len_list (w_arg rfl))))
  rw[b9] at h5
  refine Nat.le_of_not_lt fun q=>?_
  have q':(n:Int)<((ns.length:Nat):Int):=by lia
  first
   | (rw[decide_eq_true q'] at h5;exact absurd h5 (by decide))
   | (simp at h5;lia)
 cases hwl with
 | cons w1 w2 =>
  cases w2
  cases w1 with
  | list ho hall=>exact ⟨_,_,ns,rfl,rfl,ho,mq ns _ hall,hlen⟩
theorem zi (l:OpenLaw) (args:List WData):l.row.toRowW.claim.post args (.bool true) args=true :=
 postW_of (r:=l.row.toRowW) (X:=(true == true))
  (show KD [] (.bool true) .bool=true by first|rfl|decide|simp[KD,WShape.arms,WShape.armsAll])
  (show (WTm.eq .res (.lit (.bool true))).value [] { args:=args,res:=some (.bool true),after:=args }=some (.bool (true == true)) from w_eq_bool (w_res rfl) w_lit) rfl
theorem vf {l:OpenLaw}{n:Nat}{q:j9}{loose:List Str}{XP:(Str->Option d6)->Heap->Prop}{YP:t9->Heap->Prop}{d:DefRec}
  (hn:l.most=some n) (hdf:d.params.defaults=[])
  (call:∀(w:t9) (s₀ s₁:d7) (mg mb:Str->Option d6) (fa:Addr) (o:Obj) (pm cd doc:d6) (a:Addr) (vs:List d6) (ns:List Int),
   Ground q loose [] XP w s₀ mg mb s₁.heap->YP w s₁.heap ->
   s₁.heap.get? fa=some o->o.data=.func (docDef d.name d.params d.body d.scope pm cd doc)->s₁.heap.CodeRec cd d.name->mg d.name=some (.ref fa) ->
   s₁.heap.get? a=some { cls:=.type "list",data:=.seq vs.toArray }->fj vs ns->ns.length<=n->s₁.gens=#[] ->
   jK (y6 l.prog w) qV (.call (.ref fa) ⟨[.ref a],[]⟩) (fun r s'=>r=.ok (.ret (.bool true))/\OldK s₁.heap s'.heap/\s'.os=s₁.os/\iA s'.gens) s₁):
  WalkO q loose XP YP l.row.toRowW d [] (fun f vs=>Ak f vs):=by
 intro w s₀ s₁ mg mb G Y fa o pm cd doc dV kV ho hd hcd hD hmg hg args vals as hpre hlay hrd hwl hlo
 obtain rfl:dV=.none:=Dflts.none hD hdf
 obtain rfl:kV=.none:=Dflts.noKw hD
 obtain ⟨a,vs,ns,rfl,rfl,hobj,hints,hlen⟩:=zf hn hpre hwl
 refine enter_call (jJ (call w s₀ s₁ mg mb fa o pm cd doc a vs ns G Y ho (fd_plain hd) hcd hmg hobj hints hlen hg) fun r s' hq=>?_)
 obtain ⟨rfl,h2,h3,h4⟩:=hq
 exact ⟨.inl ⟨.bool true,.bool true,[],rfl,fun _=>rfl,.bool true,zi l _,fun _=>⟨aw,fun _ hm=>(nomatch hm)⟩⟩,h2,h3,h4⟩
section
variable {prog:j9}{w:t9}{A:v7}{E:d6->d7->Prop}{s:d7}{K:Frag}
end
end Att
namespace L2
open PySem PySem.Spec PyProof.Rows
theorem pT:∀{vs:List d6}{ns:List Int},fj vs ns->F2 (ns.map V.int) vs
 | _,_,.nil=>.nil
 | _,_,.cons n t h=>.cons ⟨t,rfl⟩ (pT h)
noncomputable abbrev KOf {K:m9}{h:Heap} (_:K.In h):m9:=K
noncomputable def cO (s:Stmt):cq:=match s with
 | .FunctionDef _ a _ _ _ _ _ _ _ _=>a
 | _=>{ posonlyargs:=[],args:=[],vararg:=none,kwonlyargs:=[],kw_defaults:=[],kwarg:=none,defaults:=[] }
noncomputable def Z3 (s:Stmt):List Stmt:=match s with
 | .FunctionDef _ _ b _ _ _ _ _ _ _=>b
 | _=>[]
noncomputable def v9 (s:Stmt):N3:=match s with
 | .FunctionDef _ _ _ _ _ _ sc _ _ _=>sc
 | _=>{ kind:=.function,names:=[],isGenerator:=false,isCoroutine:=false }
noncomputable abbrev cH:yI:=fun _ _ _ _ _ _=>False
noncomputable abbrev E0:XK:=fun _ _ _=>False
variable {X:Cx}
theorem JF :jB cH X E0:=fun _ _ _ _ _ _ _ h=>h.elim
structure aY (K:m9) (x qual:Str) (st:Stmt) (f:Addr) (fd:C4):Prop where
 ex:∃(oc:d6) (od:Option Addr) (kV doc pm:d6) (an:Option Addr) (cdv ct:d6) (osl:Array (Option d6)),
  fd=fg x qual (cO st) (Z3 st) (v9 st) .none kV doc pm an cdv ct/\K.lookup f=some ⟨oc,od,.func fd,osl⟩/\iU K cdv qual=true
 kp:ba K (.ref f)=true
section
variable {P:j9}{w:t9}{K:m9}{mg:Str->Option d6}{base:Heap}
variable {x qual:Str}{f:Addr}
theorem aY.ok {st:Stmt}{fd:C4}{N ps:List Str}{k:Nat}{sp:Sp} (F:aY K x qual st f fd) (S:C3 N ps (v9 st)) (len:∀vs H Q E,sp vs H Q E->vs.length=ps.length)
  (hbody:∀(cdv:d6) (A:v7) (outer:List Env) (s:d7) (H:Hp) (vs:List V) (Q:VK) (E:XK),bg k (A.deeper (W1 qual (v9 st) s.heap.objs.size f cdv))->sp vs H Q E ->
   ∃t,pM (eX cH P w K mg base N qual (v9 st) f cdv A outer s H E).nox (Z3 st) t/\t { nx:=fun _ H'=>Q .non H',rt:=Q } (start N vs) H):M0 P w K mg base cH (k+1) f fd ps sp:=by
 obtain ⟨oc,od,kV,doc,pm,an,cdv,ct,osl,rfl,lk,hcd⟩:=F.ex
 refine Cs lk hcd S len fun A outer s H vs Q E hr hsp=>?_
 obtain ⟨t,h,q⟩:=hbody cdv A outer s H vs Q E hr hsp
 exact ⟨t,h.nox,q⟩
theorem aY.binds {st:Stmt}{fd:C4}{ps:List Str} (F:aY K x qual st f fd)
  (h:∀(kV doc pm:d6) (an:Option Addr) (cdv ct:d6) (us:List d6),us.length=ps.length->yP (fg x qual (cO st) (Z3 st) (v9 st) .none kV doc pm an cdv ct) ⟨us,[]⟩=pure (ps.zip us)):jh K fd ps []:=by
 obtain ⟨oc,od,kV,doc,pm,an,cdv,ct,osl,rfl,lk,hcd⟩:=F.ex
 exact .all (h kV doc pm an cdv ct)
theorem wW {st:Stmt}{oc:d6}{od an:Option Addr}{osl:Array (Option d6)}{kV doc pm cdv ct:d6} (l:K.lookup f=some ⟨oc,od,.func (fg x qual (cO st) (Z3 st) (v9 st) .none kV doc pm an cdv ct),osl⟩)
  (c:iU K cdv qual=true) (k:ba K (.ref f)=true):aY K x qual st f (fg x qual (cO st) (Z3 st) (v9 st) .none kV doc pm an cdv ct):=⟨⟨oc,od,kV,doc,pm,an,cdv,ct,osl,rfl,l,c⟩,k⟩
end
variable {A:v7}{k:Nat}
theorem lV (hr:bg k A):A.units+1<jk:=X7 (Nat.add_le_add_left (by decide:1<=64) _) hr.units
variable {n:Nat}
theorem qe (h:n<=1000):n<i7:=X7 h (by decide)
section
variable {X:Cx}
theorem pv (i:Nat) {x:Str}{pos:Pos} (hN:X.N[i]?=some x:=by rfl) (hv:Ka X.env.scope x:=by first|exact B5 rfl|exact Z7 (B5 rfl)|exact Z7 (Z7 rfl)) (hd:(x == ("__debug__":Str))=false:=by decide)
  (hcd:(x == ("__classdict__":Str))=false:=by decide):PE X (.Name x pos) (O9 i):=wx hN hv hd hcd
end
variable {B:Prop}
theorem Q3 {A:Prop} (h:B):if false=true then A else B:=by
 rw[if_neg A3]
 exact h
theorem P8 {A:Prop} (h:A):if true=true then A else B:=by
 rw[if_pos rfl]
 exact h
theorem wU {c A:Prop} [Decidable c] (h1:c->A) (h2:¬ c->B):if c then A else B:=by
 by_cases h:c
 ·rw[if_pos h]
  exact h1 h
 ·rw[if_neg h]
  exact h2 h
theorem Cf {c A:Prop} [Decidable c] (hc:c) (h:B):if (!decide c)=true then A else B:=by
 rw[decide_eq_true hc]
 exact Q3 h
noncomputable def j7 (H H':Hp):Prop:=∀b o,H b=some o->H' b=some o
theorem j7.refl (H:Hp):j7 H H:=fun _ _ h=>h
variable {H:Hp}
theorem j7.trans {H1 H2:Hp} (a:j7 H H1) (b:j7 H1 H2):j7 H H2:=fun c o h=>b c o (a c o h)
variable {H':Hp}
theorem j7.free (e:j7 H H') {l:Addr} (h:H' l=Ja):H l=Ja:=by
 cases q:H l with
 | none=>rfl
 | some o =>
  rw[e l o q] at h
  cases h
set_option maxHeartbeats 4000000
theorem bN:∀(names:List (Str × X8)) (n:Nat) (acc:List (Str × Addr)),O0 n names acc=O0 n names []++acc
 | [],n,acc=>rfl
 | (x,k)::r,n,acc=>by
  unfold O0
  split
  ·rw[bN r (n+1) ((x,n)::acc),bN r (n+1) [(x,n)],List.append_assoc]
   rfl
  ·exact bN r n acc
noncomputable def S1 (env:Env):List (Str × X8)->List (Str × Addr)->List (Str × Addr)
 | [],acc=>acc
 | (x,k)::r,acc=>if k == .free then S1 env r ((x,(env.cells.lookup x).getD 0)::acc) else S1 env r acc
theorem uX {env:Env} (f:Str × X8->List (Str × Addr)->Sem (ForInStep (List (Str × Addr))))
  (hf:∀name kind cs,f (name,kind) cs=if kind == .free then (do let a <- cellOf env name;pure (.yield ((name,a)::cs))) else pure (.yield cs)):
  ∀(names:List (Str × X8)) (acc:List (Str × Addr)),(∀x∈names,x.2=.free->∃c,env.cells.lookup x.1=some c)->forIn names acc f=pure (S1 env names acc)
 | [],acc,_=>by rw[eE];rfl
 | (x,k)::r,acc,h=>by
  have ih:=fun acc=>uX f hf r acc fun y hy=>h y (f7 _ hy)
  rw[dA,hf]
  unfold S1
  by_cases hk:(k == R3)=true
  ·rw[if_pos hk,if_pos hk]
   obtain ⟨c,hc⟩:=h (x,k) i4 (beq_iff_eq.mp hk)
   have hc':env.cells.lookup x=some c:=hc
   have:cellOf env x=pure c:=by unfold cellOf;rw[hc']
   rw[this,hc']
   simp only[pure_bind,Option.getD_some]
   exact ih _
  ·rw[if_neg hk,if_neg hk]
   simp only[pure_bind]
   exact ih _
variable {scope:N3}{env:Env}
theorem eD (h:∀x∈scope.names,x.2=.free->∃c,env.cells.lookup x.1=some c):closureFor scope env=pure (S1 env scope.names []):=by
 simp only[closureFor]
 rw[uX (env:=env) _ (fun name kind cs=>by cases hk:kind == R3 <;> simp[hk]) scope.names [] h]
 rfl
theorem eY {env:Env}:∀{names:List (Str × X8)}{acc:List (Str × Addr)}{x:Str}{c:Addr},(∀x∈names,x.2=.free->∃c,env.cells.lookup x.1=some c) ->
  (x,c)∈S1 env names acc->(x,c)∈acc ∨ env.cells.lookup x=some c
 | [],acc,x,c,_,hm=>.inl hm
 | (y,k)::r,acc,x,c,h,hm=>by
  have hr:∀x∈r,x.2=.free->∃c,env.cells.lookup x.1=some c:=fun z hz=>h z (f7 _ hz)
  unfold S1 at hm
  by_cases hk:(k == R3)=true
  ·rw[if_pos hk] at hm
   obtain ⟨d,hd⟩:=h (y,k) i4 (beq_iff_eq.mp hk)
   have hd':env.cells.lookup y=some d:=hd
   rcases eY hr hm with q|q
   ·rcases List.mem_cons.mp q with e|q
    ·cases e
     right;rw[hd'];rfl
    ·exact .inl q
   ·exact .inr q
  ·rw[if_neg hk] at hm
   exact eY hr hm
theorem lC {env:Env}:∀{names:List (Str × X8)}{acc:List (Str × Addr)}{p:Str × Addr},p∈acc->p∈S1 env names acc
 | [],_,_,h=>h
 | (y,k)::r,acc,p,h=>by
  unfold S1
  split
  ·exact lC (f7 _ h)
  ·exact lC h
theorem cW {env:Env}:∀{names:List (Str × X8)}{acc:List (Str × Addr)}{x:Str},(x,R3)∈names->∃c,(x,c)∈S1 env names acc
 | [],_,_,h=>by cases h
 | (y,k)::r,acc,x,h=>by
  unfold S1
  rcases List.mem_cons.mp h with e|h
  ·cases e
   rw[if_pos (by rfl)]
   exact ⟨_,lC i4⟩
  ·split
   ·exact cW h
   ·exact cW h
theorem ah {α:Type}:∀{l:List (Str × α)}{x:Str}{c:α},(x,c)∈l->∃d,l.lookup x=some d
 | (k,v)::r,x,c,h=>by
  rw[E5]
  cases hb:x == k with
  | true=>exact ⟨v,rfl⟩
  | false =>
   rcases List.mem_cons.mp h with e|h
   ·cases e;simp at hb
   ·exact ah h
theorem dj {α:Type}:∀{l l':List (Str × α)}{x:Str}{c:α},(l++l').lookup x=some c->l.lookup x=some c ∨ (l.lookup x=none/\l'.lookup x=some c)
 | [],l',x,c,h=>.inr ⟨rfl,h⟩
 | (k,v)::r,l',x,c,h=>by
  rw[H0,E5] at h
  rw[E5]
  cases hb:x == k with
  | true=>rw[hb] at h;exact .inl h
  | false=>rw[hb] at h;exact dj h
theorem V7 {α:Type}:∀{l l':List (Str × α)}{x:Str}{c:α},l.lookup x=some c->(l++l').lookup x=some c
 | [],l',x,c,h=>by cases h
 | (k,v)::r,l',x,c,h=>by
  rw[H0,E5]
  rw[E5] at h
  cases hb:x == k with
  | true=>rw[hb] at h;exact h
  | false=>rw[hb] at h;exact V7 h
theorem Z9 {α:Type}:∀{l l':List (Str × α)}{x:Str},l.lookup x=none->(l++l').lookup x=l'.lookup x
 | [],l',x,h=>rfl
 | (k,v)::r,l',x,h=>by
  rw[H0,E5]
  rw[E5] at h
  cases hb:x == k with
  | true=>rw[hb] at h;cases h
  | false=>rw[hb] at h;exact Z9 h
theorem dh {env:Env}:∀(names:List (Str × X8)) (x:Str),
  (names.map fun (n,k)=>if (k == R3&&env.scope.kind == .function&&env.kindOf n == some .cell) then (n,bR) else (n,k)).lookup x
   =(names.lookup x).map fun k=>if (k == R3&&env.scope.kind == .function&&env.kindOf x == some .cell)=true then bR else k
 | [],x=>rfl
 | (n,k)::r,x=>by
  have ih:=dh (env:=env) r x
  rw[B9]
  cases hx:x == n with
  | true =>
   have e:x=n:=beq_iff_eq.mp hx
   subst e
   by_cases hc:(k == R3&&env.scope.kind == .function&&env.kindOf x == some .cell)=true
   ·simp only[hc,if_true,E5,hx,Q6]
   ·simp only[hc,E5,hx,Q6]
    simp
  | false =>
   show List.lookup x ((if (k == R3&&env.scope.kind == .function&&env.kindOf n == some .cell)=true then (n,bR) else (n,k))::_)=_
   by_cases hc:(k == R3&&env.scope.kind == .function&&env.kindOf n == some .cell)=true
   ·rw[if_pos hc]
    simp only[E5,hx]
    exact ih
   ·rw[if_neg hc]
    simp only[E5,hx]
    exact ih
theorem fN:∀{names:List (Str × X8)}{n:Nat}{acc:List (Str × Addr)}{x:Str}{d:Addr},(x,d)∈O0 n names acc->(x,d)∈acc ∨ (x,bR)∈names
 | [],_,_,_,_,h=>.inl h
 | (y,k)::r,n,acc,x,d,h=>by
  unfold O0 at h
  by_cases hk:(k == bR)=true
  ·rw[if_pos hk] at h
   have e:k=.cell:=beq_iff_eq.mp hk
   subst e
   rcases fN h with q|q
   ·rcases List.mem_cons.mp q with z|z
    ·cases z;exact .inr i4
    ·exact .inl z
   ·exact .inr (f7 _ q)
  ·rw[if_neg hk] at h
   rcases fN h with q|q
   ·exact .inl q
   ·exact .inr (f7 _ q)
noncomputable def jX (scope:N3):Bool:=scope.names.all fun x=>scope.names.lookup x.1 == some x.2
theorem il (h:jX scope=true) {x:Str × X8} (hx:x∈scope.names):scope.names.lookup x.1=some x.2:=beq_iff_eq.mp (List.all_eq_true.mp h x hx)
variable {x:Str}
theorem rO (h:(qS scope env).names.lookup x=some .cell ∨ (qS scope env).names.lookup x=some .free):
  scope.names.lookup x=some .cell ∨ scope.names.lookup x=some .free:=by
 unfold qS at h
 rw[dh] at h
 cases e:scope.names.lookup x with
 | none=>rw[e] at h;rcases h with h|h <;> cases h
 | some k =>
  rw[e,Q6] at h
  by_cases hc:(k == R3&&env.scope.kind == .function&&env.kindOf x == some .cell)=true
  ·rw[A6,A6] at hc
   exact .inr (by rw[beq_iff_eq.mp hc.1.1])
  ·simp only[hc] at h
   simpa using h
variable {M:oP}{E:d6->d7->Prop}{s:d7}{cl:List (Str × Addr)}
theorem uq {globals:Addr}{qual:Str}{Q:Env->d7->Prop}
  (h:Q (newEnv scope s.heap.objs.size globals (O0 (s.heap.objs.size+1) scope.names []++cl) qual none .none (some env) jL)
   { s with heap:=ji (s.heap.push { cls:=.type "dict",data:=.dict #[] }) scope.names }):
  r0 M A (yM scope globals cl [] qual none .none (some env)) Q E s:=by
 simp only[yM,zZ,if_true]
 refine b8 (wpAny_alloc ?_)
 refine b8 (wpAny_layCells _ (fun name kind cells=>by cases hkc:kind == bR <;> simp[hkc]) _ _ _ _ ?_)
 rw[show ({ s with heap:=s.heap.push { cls:=.type "dict",data:=.dict #[] } }:d7).heap.objs.size=s.heap.objs.size+1 from G9 ..,bN]
 exact b8 (i8 (i8 h))
noncomputable def Cx.comp (X:Cx) (scope:N3) (N:List Str) (s:d7) (H:Hp) (ex:List Addr):Cx where
 prog:=X.prog
 w:=X.w
 K:=X.K
 mg:=X.mg
 base:=X.base
 A:=X.A
 N:=N
 s₀:=s
 H₀:=H
 env:=compEnvC scope (O0 (s.heap.objs.size+1) scope.names []++S1 X.env scope.names []) s.heap.objs.size X.env
 outer:=X.stack
 stack:=X.stack
 ex:=ex
 fn:=fun x=>scope.names.lookup x == some .cell
 calm:=X.calm
 pn:=[]
 xe:=fun _ _=>False
noncomputable def gy (ix:List (Option Nat)) (σ:St):St:=ix.map fun o=>o.bind fun i=>(σ[i]?).join
noncomputable def ip (scope:N3) (N:List Str):List Str->List (Option Nat)->Bool
 | [],[]=>true
 | _::N',none::ix=>ip scope N N' ix
 | x::N',some i::ix=>N[i]? == some x&&scope.names.lookup x == some .free&&ip scope N N' ix
 | _,_=>false
theorem jY {scope:N3}{N:List Str}:∀{N':List Str}{ix:List (Option Nat)},ip scope N N' ix=true->ix.length=N'.length
 | [],[],_=>rfl
 | _::N',none::ix,h=>by simp[jY (N':=N') (ix:=ix) h]
 | x::N',some i::ix,h=>by
  unfold ip at h
  rw[A6] at h
  simp[jY (N':=N') (ix:=ix) h.2]
 | [],_::_,h=>by simp[ip] at h
 | _::_,[],h=>by simp[ip] at h
theorem jZ {scope:N3}{N:List Str}:∀{N':List Str}{ix:List (Option Nat)}{j i:Nat},ip scope N N' ix=true->ix[j]?=some (some i) ->
  ∃x,N'[j]?=some x/\N[i]?=some x/\scope.names.lookup x=some .free
 | [],[],j,i,_,e=>by simp at e
 | y::N',none::ix,0,i,h,e=>by simp at e
 | y::N',none::ix,j+1,i,h,e=>by
  obtain ⟨x,h1,h2⟩:=jZ (N':=N') (ix:=ix) (j:=j) (i:=i) h (by simpa using e)
  exact ⟨x,by simpa using h1,h2⟩
 | y::N',some k::ix,0,i,h,e=>by
  unfold ip at h
  rw[A6,A6] at h
  simp at e
  subst e
  exact ⟨y,rfl,beq_iff_eq.mp h.1.1,beq_iff_eq.mp h.1.2⟩
 | y::N',some k::ix,j+1,i,h,e=>by
  unfold ip at h
  rw[A6] at h
  obtain ⟨x,h1,h2⟩:=jZ (N':=N') (ix:=ix) (j:=j) (i:=i) h.2 (by simpa using e)
  exact ⟨x,by simpa using h1,h2⟩
 | [],_::_,_,_,h,_=>by simp[ip] at h
 | _::_,[],_,_,h,_=>by simp[ip] at h
noncomputable def az (scope:N3) (env:Env):Bool:=scope.names.all fun x=>!(x.2 == .free) || env.kindOf x.1 == some .cell || env.kindOf x.1 == some .free
theorem fL (h:az scope env=true) {x:Str × X8} (hx:x∈scope.names) (hk:x.2=.free):env.kindOf x.1=some .cell ∨ env.kindOf x.1=some .free:=by
 have:=List.all_eq_true.mp h x hx
 rw[hk] at this
 simpa using this
section
variable {X:Cx}{pins:List (Addr × Obj)}{σ:St}{H:Hp}{s:d7}{scope:N3}{N:List Str}{ix:List (Option Nat)}{ex:List Addr}
theorem C6.closed (I:C6 X pins σ H s) (hf:az scope X.env=true):∀x∈scope.names,x.2=.free->∃c,X.env.cells.lookup x.1=some c :=
 fun x hx hk=>I.ok.has x.1 (fL hf hx hk)
theorem ue {j:Nat}{v:V} (h:(gy ix σ)[j]?=some (some v)):∃i,ix[j]?=some (some i)/\σ[i]?=some (some v):=by
 unfold gy at h
 rw[n8] at h
 cases e:ix[j]? with
 | none=>rw[e] at h;cases h
 | some o =>
  rw[e] at h
  cases o with
  | none=>cases h
  | some i =>
   refine ⟨i,rfl,?_⟩
   have h':(σ[i]?).join=some v:=D1 h
   cases q:σ[i]? with
   | none=>rw[q] at h';cases h'
   | some z=>rw[q] at h';exact congrArg some h'
theorem C6.comp (I:C6 X pins σ H s) (hk:scope.kind=.function) (hnm:jX scope=true) (hf:az scope X.env=true) (hx:ip scope X.N N ix=true)
  (hex:∀b∈ex,H b=none/\b≠X.env.locals/\b ∉ X.fs/\(b∈X.ex ∨ X.s₀.heap.objs.size<=b)/\(∀x c,X.env.cells.lookup x=some c->c≠b)/\b<s.heap.objs.size):
  C6 (X.comp scope N s H ex) [] (gy ix σ) H { s with heap:=ji (s.heap.push { cls:=.type "dict",data:=.dict #[] }) scope.names }:=by
 have hcl:=I.closed hf
 have hkeep:∀b o,s.heap.get? b=some o->(ji (s.heap.push { cls:=.type "dict",data:=.dict #[] }) scope.names).get? b=some o:=fun b o e=>vL _ _ b o (f9 _ e)
 have ok:=cellsFrom_ok scope.names (s.heap.push { cls:=.type "dict",data:=.dict #[] }) (s.heap.objs.size+1) [] ⟨fun _ _ hm=>(nomatch hm),aw⟩ (by rw[G9];exact i9 _)
 rw[G9] at ok
 have hns:(ji (s.heap.push { cls:=.type "dict",data:=.dict #[] }) scope.names).Ns s.heap.objs.size (fun _=>none):=(Heap.Ns.new s.heap (.type "dict")).keeps (vL _ _)
 have cells:∀x c,(X.comp scope N s H ex).env.cells.lookup x=some c->(x,c)∈O0 (s.heap.objs.size+1) scope.names [] ∨ X.env.cells.lookup x=some c:=fun x c e=>by
  have e':(O0 (s.heap.objs.size+1) scope.names []++S1 X.env scope.names []).lookup x=some c:=e
  rcases dj e' with q|⟨_,q⟩
  ·exact .inl (mem_of_lookup q)
  ·rcases eY hcl (mem_of_lookup q) with z|z
   ·cases z
   ·exact .inr z
 have old:∀x c,X.env.cells.lookup x=some c->c+1<=s.heap.objs.size:=fun x c e=>let ⟨v,q⟩:=I.cell x c e;q.lt
 have own:∀x c,(x,c)∈O0 (s.heap.objs.size+1) scope.names []->s.heap.objs.size+1<=c:=fun x c e=>(ok.empty x c e).2
 refine ⟨⟨I.ok.mod,hk,I.ok.glob,I.ok.blt,i9 _,fun x y c h1 h2=>?_,fun x h1=>?_,fun x c h1 h2=>?_,I.ok.hd,I.ok.frames,.inl rfl,fun b hb=>⟨?_,fun x c e=>?_⟩,I.bs,m8 I.ok.bsz I.sz,fun b o e hb=>?_,fun b hb hb'=>?_,I.stack,I.stkFree⟩,
  rfl,I.bare,Un.kept hkeep,⟨_,hns,fun j x v h1 h2 h3=>?_⟩,fun x c e=>?_,I.hok.fresh (i9 _),fun x c e=>?_,fun p hp=>absurd (show p∈([]:List (Addr × Obj)) from hp) (by simp),I.hok.kept hkeep,?_⟩
 ·rcases cells x c h1 with q1|q1 <;> rcases cells y c h2 with q2|q2
  ·exact name_of_addr ok.apart q1 q2
  ·exact absurd (m8 (own _ _ q1) (m8 (X0 _) (old _ _ q2))) (Aq _)
  ·exact absurd (m8 (own _ _ q2) (m8 (X0 _) (old _ _ q1))) (Aq _)
  ·exact I.ok.inj x y c q1 q2
 ·have h1':scope.names.lookup x=some .cell ∨ scope.names.lookup x=some .free:=rO h1
  rcases h1' with q|q
  ·obtain ⟨c,e⟩:=kC (n:=s.heap.objs.size+1) (sc:=scope) q
   exact ⟨c,V7 e⟩
  ·obtain ⟨c,e⟩:=cW (env:=X.env) (acc:=[]) (mem_of_lookup q)
   cases z:(O0 (s.heap.objs.size+1) scope.names []).lookup x with
   | some d=>exact ⟨d,V7 z⟩
   | none =>
    obtain ⟨d,e'⟩:=ah e
    exact ⟨d,(Z9 z).trans e'⟩
 ·have h1':scope.names.lookup x=some .cell:=beq_iff_eq.mp h1
  obtain ⟨d,e⟩:=kC (n:=s.heap.objs.size+1) (sc:=scope) h1'
  have e':(O0 (s.heap.objs.size+1) scope.names []++S1 X.env scope.names []).lookup x=some c:=h2
  rw[V7 e] at e'
  cases e'
  exact m8 (X0 _) (own _ _ (mem_of_lookup e))
 ·exact w9 (hex b hb).2.2.2.2.2
 ·rcases cells x c e with q|q
  ·exact G6 (B4 (hex b hb).2.2.2.2.2 (m8 (X0 _) (own _ _ q)))
  ·exact (hex b hb).2.2.2.2.1 x c q
 ·rcases (hex b hb).2.2.2.1 with z|z
  ·exact I.ok.noex b o e z
  ·exact absurd (B4 (m7 e) (m8 I.ok.bsz z)) (O2 _)
 ·rcases List.mem_cons.mp (I.stkSub b hb') with z|z
  ·exact (hex b hb).2.1 z
  ·exact (hex b hb).2.2.1 z
 ·obtain ⟨i,e1,e2⟩:=ue h2
  obtain ⟨y,f1,f2,f3⟩:=jZ hx e1
  have exy:x=y:=by
   have h1':N[j]?=some x:=h1
   rw[f1] at h1';exact (D1 h1').symm
  subst exy
  obtain ⟨m,hm,hl⟩:=I.loc
  have kx:=fL hf (mem_of_lookup f3) rfl
  have vis:Ka X.env.scope x:=by
   rcases kx with k|k
   ·exact .inr (.inl k)
   ·exact .inr (.inr k)
  obtain ⟨u,ru,l⟩:=hl i x v f2 e2 vis
  refine ⟨u,ru,.inr ?_⟩
  have hv:(qS scope X.env).names.lookup x=some .cell ∨ (qS scope X.env).names.lookup x=some .free:=by
   unfold qS
   rw[dh,f3,Q6]
   split
   ·exact .inl rfl
   ·exact .inr rfl
  refine ⟨hv,?_⟩
  rcases l with ⟨k,_⟩|⟨k,c,ec,z⟩
  ·have k':X.env.kindOf x=some .local:=k
   rcases kx with q|q <;> rw[q] at k' <;> cases k'
  ·obtain ⟨d,ed⟩:=cW (env:=X.env) (acc:=[]) (mem_of_lookup f3)
   have nocell:(O0 (s.heap.objs.size+1) scope.names []).lookup x=none ∨ ∃d,(O0 (s.heap.objs.size+1) scope.names []).lookup x=some d:=by
    cases (O0 (s.heap.objs.size+1) scope.names []).lookup x with
    | none=>exact .inl rfl
    | some d=>exact .inr ⟨d,rfl⟩
   rcases nocell with q|⟨d',q⟩
   ·obtain ⟨d2,ed2⟩:=ah ed
    have hd2:X.env.cells.lookup x=some d2:=by
     rcases eY hcl (mem_of_lookup ed2) with z|z
     ·cases z
     ·exact z
    rw[ec] at hd2
    cases hd2
    exact ⟨c,(Z9 q).trans ed2,z.keeps hkeep⟩
   ·-- a name is not both free and a cell of the block
    exfalso
    rcases fN (mem_of_lookup q) with z|z
    ·cases z
    ·have z':=il hnm z
     rw[f3] at z'
     cases z'
 ·rcases cells x c e with q|q
  ·exact ⟨none,(ok.empty x c q).1⟩
  ·obtain ⟨v,z⟩:=I.cell x c q
   exact ⟨v,z.keeps hkeep⟩
 ·rcases cells x c e with q|q
  ·exact I.hok.fresh (m8 (X0 _) (own x c q))
  ·exact I.freeC x c q
 ·show (gy ix σ).length=N.length
  unfold gy
  rw[b9]
  exact jY hx
end
section
variable {prog:j9}{w:t9}{A:v7}{R:tD->d7->Prop}{s:d7}
theorem sP {elt target iter:Expr}{ifs:List Expr}{scope:N3}{pos:Pos}{it acc:d6}{env:Env} (I:Nat->d7->Prop)
  (turn:∀n s,I n s->r0 (y6 prog w) A (jI it) (fun r s₁=>match r with
   | none=>R (.ok .next) s₁
   | some v=>r0 (y6 prog w) A (kL target it v) (fun _ s₁'=>r0 (y6 prog w) A (oY target env v) (fun _ s₂ =>
     r0 (y6 prog w) A (forIn ifs true fun c r=>if r=true then do let ok <- IR c env (eval c env);pure (fY ok) else pure (fY r)) (fun ok s₃ =>
      if ok=true then r0 (y6 prog w) A (eval elt env) (fun x s₄ =>
       r0 (y6 prog w) A (call (.builtin "list.append") [acc,x]) (fun _ s₅=>∃m,m<n/\I m s₅) (fun _ _=>False) s₄) (fun _ _=>False) s₃
      else ∃m,m<n/\I m s₃) (fun _ _=>False) s₂) (fun _ _=>False) s₁') (fun _ _=>False) s₁) (fun _ _=>False) s)
  (n:Nat) (h:I n s):
  jK (y6 prog w) A (.compLoop (.ListComp elt [⟨target,iter,ifs,0⟩] scope pos) 0 it acc env) R s:=by
 refine codeAny_loop rfl I (fun n s hI=>?_) n h
 show r0 _ A ((compTurn (.ListComp elt [⟨target,iter,ifs,0⟩] scope pos) 0 it acc env).onRaise (fun x=>do Dd x env;theTreesLotGoes x)) _ _ s
 refine wpAny_noted ?_
 rw[compTurn_list]
 refine b8 (iQ (b8 (F0 (turn n s hI) (fun r s₁ h₁=>?_) fun _ _ h'=>h'.elim)))
 cases r with
 | none=>exact i8 h₁
 | some v =>
  refine b8 (F0 h₁ (fun _ s₁' h₁'=>?_) fun _ _ h'=>h'.elim)
  refine b8 (F0 h₁' (fun _ s₂ h₂=>b8 (F0 h₂ (fun ok s₃ h₃=>?_) fun _ _ h'=>h'.elim)) fun _ _ h'=>h'.elim)
  cases ok with
  | false=>exact i8 ⟨rfl,h₃⟩
  | true =>
   exact b8 (b8 (F0 h₃ (fun x s₄ h₄=>b8 (F0 h₄ (fun _ s₅ h₅=>i8 (i8 ⟨rfl,h₅⟩)) fun _ _ h'=>h'.elim)) fun _ _ h'=>h'.elim))
end
noncomputable def Wk (σ σ2:St):Prop:=σ.length=σ2.length/\∀(i:Nat) v,σ[i]?=some (some v)->σ2[i]?=some (some v)
theorem Wk.set {σ:St}{i:Nat}{v:V} (h:σ[i]?=some none ∨ σ[i]?=none):Wk σ (σ.set i (some v)):=by
 refine ⟨by simp,fun j u e=>?_⟩
 by_cases hj:j=i
 ·subst hj
  rcases h with h|h <;> rw[h] at e <;> cases e
 ·rw[K4 (M3 hj)]
  exact e
section
variable {X:Cx}{pins:List (Addr × Obj)}{σ:St}{H H':Hp}{s s':d7}{scope:N3}{N:List Str}{ix:List (Option Nat)}{fp:List Addr}
noncomputable abbrev Y6 (s:d7):d7:={ s with heap:=s.heap.push { cls:=.type "list",dict:=none,data:=.seq ([]:List d6).toArray } }
theorem ai (s:d7):(Y6 s).heap.objs.size=s.heap.objs.size+1:=G9 ..
theorem C6.comp_end {pins':List (Addr × Obj)}{σ':St}{ys:List V}{its:List d6}{n:Nat}{h':Heap} (I:C6 X pins σ H s) (J:C6 (X.comp scope N (Y6 s) H (s.heap.objs.size::fp)) pins' σ' H' s') (hfp:∀b∈fp,mw X pins H b)
  (hD:H' s.heap.objs.size=none) (hl:s'.heap.get? s.heap.objs.size=some { cls:=.type "list",data:=.seq its.toArray n }) (hv:F2 ys its) (hz:ys.length<=i7)
  (hs:R6 (Y6 s).heap.objs.size s'.heap h'):C6 X pins σ (t6 H' s.heap.objs.size (.lst ys)) { s' with heap:=h' }:=by
 have oldC:∀b,b<s.heap.objs.size->b≠(Y6 s).heap.objs.size:=fun b hb=>by rw[ai];exact w9 (O3 hb)
 have DC:s.heap.objs.size≠(Y6 s).heap.objs.size:=by rw[ai];exact w9 (cK _)
 have pushed:∀b o,s.heap.get? b=some o->(Y6 s).heap.get? b=some o:=fun b o e=>f9 _ e
 have nex:∀b o,s.heap.get? b=some o->b ∉ fp->b ∉ (X.comp scope N (Y6 s) H (s.heap.objs.size::fp)).ex:=fun b o e hb z=>by
  rcases List.mem_cons.mp (show b∈s.heap.objs.size::fp from z) with z|z
  ·rw[z] at e;exact absurd (m7 e) (O2 _)
  ·exact hb z
 have U:=J.base
 have un:Un (kr X.stack) fp H (t6 H' s.heap.objs.size (.lst ys)) s.heap h':=by
  refine ⟨fun b o e n hb hx=>?_,fun b o e n hb hx=>?_,fun b o e n hx=>?_,fun b o e hx=>?_,fun b xs e=>?_,fun b o u e=>?_,fun b ps e=>?_⟩
  ·exact (hs.2 b (oldC b (m7 e))).trans (U.keep b o (pushed b o e) n hb (nex b o e hx))
  ·obtain ⟨sl,q⟩:=U.slot b o (pushed b o e) n hb (nex b o e hx)
   exact ⟨sl,(hs.2 b (oldC b (m7 e))).trans q⟩
  ·rw[B6 (w9 (m7 e))]
   exact U.free b o (pushed b o e) n (nex b o e hx)
  ·obtain ⟨o',q⟩:=U.there b o (pushed b o e) (nex b o e hx)
   exact ⟨o',(hs.2 b (oldC b (m7 e))).trans q⟩
  ·have q:=U.tups b xs e
   rw[B6 (v8 q hD)];exact q
  ·have q:=U.frzs b o u e
   rw[B6 (v8 q hD)];exact q
  ·obtain ⟨m,q⟩:=U.tbls b ps e
   exact ⟨m,by rw[B6 (v8 q hD)];exact q⟩
 have hC:H' (Y6 s).heap.objs.size=none:=J.free
 have hok:bh X.prog X.w (t6 H' s.heap.objs.size (.lst ys)) h':=fun b u e=>by
  by_cases hb:b=s.heap.objs.size
  ·subst hb
   rw[f6] at e;cases e
   exact ⟨hz,its,n,hv,(hs.2 _ DC).trans hl⟩
  ·rw[B6 hb] at e
   refine (J.hok b u e).stay (fun c v hc q=>(hs.2 c ?_).trans q) (fun c q=>by rw[B6 (v8 q hD)];exact q) fun c xs q=>by rw[B6 (v8 q hD)];exact q
   rintro rfl
   rcases hc with z|z
   ·rw[<- z,hC] at e;cases e
   ·rw[hC] at z;cases z
 exact I.call' (s':={ s' with heap:=h' }) (ch:=fp) J.os un hok J.bare fun b hb=>⟨(hfp b hb).2.2.2.1,(hfp b hb).2.1,(hfp b hb).2.2.2.2.1,(hfp b hb).2.2.2.2.2⟩
end
section
variable {X:Cx}{scope:N3}{N:List Str}{ix:List (Option Nat)}{elt target iter:Expr}{ifs:List Expr}{pos:Pos}{wi:TI}{g:TG}{te:TE}{tc:TT}
noncomputable def Fb (X:Cx) (ifs:List Expr) (t:TT):Prop :=
 ∀(pins:List (Addr × Obj)) (s:d7) (σ:St) (H:Hp) (Q:Bool->Hp->Prop),C6 X pins σ H s->t σ H Q ->
  r0 (y6 X.prog X.w) X.A (forIn ifs true fun c r=>if r=true then do let ok <- IR c X.env (eval c X.env);pure (fY ok) else pure (fY r)) (TP X pins σ Q) X.xe s
noncomputable def Q2:TT:=fun _ H Q=>Q true H
theorem F9:Fb X [] Q2:=fun _ _ _ H _ I h=>wpAny_tests_nil ⟨H,I,h⟩
noncomputable def Fe (J:It) (σ0:St) (g:TG) (tc:TT) (te:TE) (H1:Hp) (F:List V->Hp->Prop):Prop:=∃W:Nat->Nat->List V->Hp->Prop,(∃m,W 0 m [] H1)/\∀i m ys H2,W i m ys H2->ys.length<=i7 /\
 ((J.stop i H2/\F ys H2) ∨
  (J.go i H2/\∃(Ny:V->Hp->Prop) (Nn:Hp->Prop),(∀y H,Ny y H->∃m',m'<m/\W (i+1) m' (ys++[y]) H)/\(∀H,Nn H->∃m',m'<m/\W (i+1) m' ys H) /\
    ∀x H3,J.yld i H2 x H3->g x σ0 H3 fun σ2 H4=>Wk σ0 σ2/\tc σ2 H4 fun b H5=>if b=true then te σ2 H5 Ny else Nn H5))
theorem uV {pins:List (Addr × Obj)}{σ:St}{H:Hp}{s:d7}{it:Addr}{fp:List Addr}{tn:Nat->Heap->Prop}{J:It}{F:List V->Hp->Prop}{E:d6->d7->Prop}{RR:d6->Addr->tD->d7->Prop}
  (hc:X.calm=true) (hk:scope.kind=.function) (hnm:jX scope=true) (hf:az scope X.env=true) (hx:ip scope X.N N ix=true)
  (hg:∀s H ex,PG (X.comp scope N s H ex) target g) (ht:∀s H ex,Fb (X.comp scope N s H ex) ifs tc) (he:PE (X.comp scope N (Y6 s) H (s.heap.objs.size::fp)) elt te)
  (I:C6 X pins σ H s) (T:vi X.prog X.w X.K target J fp it tn) (st:tn 0 s.heap) (hfp:∀b∈fp,mw X pins H b) (B:Fe J (gy ix σ) g tc te H F)
  (fin:∀(ys:List V) (H':Hp) (s':d7) (σ':St) (its:List d6) (n:Nat),C6 (X.comp scope N (Y6 s) H (s.heap.objs.size::fp)) [] σ' H' s'->H' s.heap.objs.size=none ->
   s'.heap.get? s.heap.objs.size=some { cls:=.type "list",data:=.seq its.toArray n }->F2 ys its->ys.length<=i7->F ys H'->RR (.ref s.heap.objs.size) (Y6 s).heap.objs.size (.ok .next) s'):
  r0 (y6 X.prog X.w) X.A (newList []) (fun acc s₃=>r0 (y6 X.prog X.w) X.A (yM scope X.env.globals (S1 X.env scope.names []) [] X.env.qual none .none (some X.env)) (fun cenv s₄ =>
   jK (y6 X.prog X.w) X.A (.compStart (.ListComp elt [⟨target,iter,ifs,0⟩] scope pos) 0 (.ref it) acc { cenv with scope:=qS scope X.env }) (RR acc cenv.locals) s₄) E s₃) E s:=by
 refine C9 (uq ?_) (by show ([]:List d6).toArray.size<=i7;exact u9 _)
 obtain ⟨W,⟨m0,w0⟩,turn⟩:=B
 have I1:C6 X pins σ H (Y6 s):=I.kept (t':=s.toks) fun b o e=>f9 _ e
 have fpLt:∀b∈fp,b<s.heap.objs.size:=fun b hb=>let ⟨o,e,_⟩:=T.obj 0 _ st b hb;m7 e
 have accE:(Y6 s).heap.get? s.heap.objs.size=some { cls:=.type "list",dict:=none,data:=.seq ([]:List d6).toArray }:=q9 _ rfl
 have fD:mw X pins H s.heap.objs.size:=I.fpOk (i9 _) (I.hok.fresh (i9 _))
 have J0:C6 (X.comp scope N (Y6 s) H (s.heap.objs.size::fp)) [] (gy ix σ) H _:=I1.comp (N:=N) (ix:=ix) (ex:=s.heap.objs.size::fp) hk hnm hf hx fun b hb=>by
  rcases List.mem_cons.mp hb with z|z
  ·subst z
   exact ⟨fD.1,fD.2.1,fD.2.2.1,fD.2.2.2.1,fD.2.2.2.2.1,by rw[ai];exact cK _⟩
  ·obtain ⟨f0,f1,f2,f3,f4,_⟩:=hfp b z
   exact ⟨f0,f1,f2,f3,f4,by rw[ai];exact O3 (fpLt b z)⟩
 have keep0:∀b o,(Y6 s).heap.get? b=some o->(ji ((Y6 s).heap.push { cls:=.type "dict",data:=.dict #[] }) scope.names).get? b=some o:=fun b o e=>vL _ _ b o (f9 _ e)
 have st0:tn 0 (ji ((Y6 s).heap.push { cls:=.type "dict",data:=.dict #[] }) scope.names):=T.keep 0 _ _ st fun b hb o e=>keep0 b o (f9 _ e)
 have exOk:∀b∈s.heap.objs.size::fp,b≠(X.comp scope N (Y6 s) H (s.heap.objs.size::fp)).env.locals/\b ∉ (X.comp scope N (Y6 s) H (s.heap.objs.size::fp)).fs /\
   ∀x c,(X.comp scope N (Y6 s) H (s.heap.objs.size::fp)).env.cells.lookup x=some c->c≠b:=fun b hb=>⟨(J0.ok.exf b hb).1,J0.ok.exfs b hb,(J0.ok.exf b hb).2⟩
 have stat:∀{H':Hp}{o:Obj},(∀b∈fp,H' b=none)->∀b∈fp,mw (X.comp scope N (Y6 s) H (s.heap.objs.size::fp)) [(s.heap.objs.size,o)] H' b:=fun {H' o} hn b hb=>by
  obtain ⟨e1,e2,e3⟩:=exOk b (f7 _ hb)
  refine ⟨hn b hb,e1,e2,.inl (f7 _ hb),e3,fun p hp=>?_⟩
  have hp':p∈[(s.heap.objs.size,o)]:=(List.mem_append.mp hp).elim (fun z=>absurd (show p∈([]:List (Addr × Obj)) from z) (by simp)) id
  rw[List.mem_singleton.mp hp']
  exact G6 (fpLt b hb)
 have loop:jK (y6 X.prog X.w) X.A (.compLoop (.ListComp elt [⟨target,iter,ifs,0⟩] scope pos) 0 (.ref it) (.ref s.heap.objs.size) (X.comp scope N (Y6 s) H (s.heap.objs.size::fp)).env) (RR (.ref s.heap.objs.size) (Y6 s).heap.objs.size)
   { Y6 s with heap:=ji ((Y6 s).heap.push { cls:=.type "dict",data:=.dict #[] }) scope.names }:=by
  refine sP (fun n s'=>∃i ys its k H',C6 (X.comp scope N (Y6 s) H (s.heap.objs.size::fp)) [] (gy ix σ) H' s'/\tn i s'.heap/\(∀b∈fp,H' b=none)/\H' s.heap.objs.size=none /\
   s'.heap.get? s.heap.objs.size=some { cls:=.type "list",data:=.seq (its:List d6).toArray k }/\F2 ys its/\W i n ys H') ?_ m0
   ⟨0,[],[],0,H,J0,st0,fun b hb=>(hfp b hb).1,fD.1,keep0 _ _ accE,.nil,w0⟩
  rintro n s3 ⟨i,ys,its,k,H3,I3,st3,fr3,d3,l3,v3,w3⟩
  obtain ⟨hz,hw⟩:=turn i n ys H3 w3
  have pinD:C6 (X.comp scope N (Y6 s) H (s.heap.objs.size::fp)) [(s.heap.objs.size,{ cls:=.type "list",data:=.seq its.toArray k })] (gy ix σ) H3 s3:=I3.pins_of fun p hp=>by
   rw[List.mem_singleton.mp hp]
   exact ⟨l3,d3,(exOk _ i4).1,(exOk _ i4).2.1,fun v z=>by cases z⟩
  rcases hw with ⟨stop,fy⟩|⟨go,Ny,Nn,hNy,hNn,step⟩
  ·refine Q9 (T.done (X.comp scope N (Y6 s) H (s.heap.objs.size::fp)) rfl rfl rfl hc i _ s3 (gy ix σ) H3 (fun _ _=>False) pinD (stat fr3) st3 stop) fun r s4 ⟨hr,I4⟩=>?_
   subst hr
   have q:=(I4.pin (s.heap.objs.size,_) (y7 _ i4)).1
   exact fin ys H3 s4 _ its k (I4.pins_of fun p hp=>by cases hp) d3 q v3 hz fy
  ·refine Q9 (T.item (X.comp scope N (Y6 s) H (s.heap.objs.size::fp)) rfl rfl rfl hc i _ s3 (gy ix σ) H3 (fun _ _=>False) pinD (stat fr3) st3 go) fun r s4 ⟨u,hr,h4⟩=>?_
   subst hr
   refine Q9 h4 fun _ s5 ⟨x,H5,I5,r5,y5,st5,fr5⟩=>?_
   have I5':=I5.pinned (stat fr5) (T.obj _ _ st5)
   refine Q9 (hg (Y6 s) H (s.heap.objs.size::fp) _ s5 (gy ix σ) H5 x u _ I5' r5 (step x H5 y5)) fun _ s6 ⟨σ6,H6,I6,wk6,q6⟩=>?_
   refine Q9 (ht (Y6 s) H (s.heap.objs.size::fp) _ s6 σ6 H6 _ I6 q6) fun ok s7 ⟨H7,I7,q7⟩=>?_
   cases ok with
   | false =>
    obtain ⟨m',hm,w7⟩:=hNn H7 q7
    refine ⟨m',hm,i+1,ys,its,k,H7,(I7.weak wk6.1 wk6.2).pins_of (fun p hp=>by cases hp),?_,fun b hb=>?_,?_,?_,v3,w7⟩
    ·exact T.keep _ _ _ st5 fun b hb o e=>(I7.pin (b,o) (y7 _ (y7 _ (bE hb e)))).1
    ·obtain ⟨o,e,d⟩:=T.obj _ _ st5 b hb
     exact (I7.pin (b,o) (y7 _ (y7 _ (bE hb e)))).2.1
    ·exact (I7.pin (s.heap.objs.size,_) (y7 _ (T9 _ i4))).2.1
    ·exact (I7.pin (s.heap.objs.size,_) (y7 _ (T9 _ i4))).1
   | true =>
    show r0 _ _ _ _ _ _
    refine Q9 (he _ s7 σ6 H7 _ I7 q7) fun yv s8 ⟨y,H8,I8,r8,q8'⟩=>?_
    obtain ⟨m',hm,w8⟩:=hNy y H8 q8'
    have q8:=I8.pin (s.heap.objs.size,_) (y7 _ (T9 _ i4))
    refine wpAny_list_append_plain (l:=s.heap.objs.size) (items:=its.toArray) ⟨k,q8.1⟩ (fun h' hl' sb=>?_) (by rw[n6,<- v3.length];exact hz)
    obtain ⟨k',hl'⟩:=hl'
    have I9:C6 (X.comp scope N (Y6 s) H (s.heap.objs.size::fp)) [] (gy ix σ) H8 { s8 with heap:=h' }:=((I8.weak wk6.1 wk6.2).pins_of (pins':=[]) (fun p hp=>by cases hp)).turned (t':=s8.toks) (it:=s.heap.objs.size)
     (fun b o hb e=>(sb.2 b hb).trans e) q8.2.1 (exOk _ i4).1 (.inl i4) (exOk _ i4).2.2 (fun p hp=>absurd (show p∈([]:List (Addr × Obj)) from hp) (by simp))
    refine ⟨m',hm,i+1,ys++[y],its++[yv],k',H8,I9,?_,fun b hb=>?_,q8.2.1,?_,v3.append (.cons r8 .nil),w8⟩
    ·refine T.keep _ _ _ st5 fun b hb o e=>(sb.2 b (w9 (fpLt b hb))).trans (I8.pin (b,o) (y7 _ (y7 _ (bE hb e)))).1
    ·obtain ⟨o,e,d⟩:=T.obj _ _ st5 b hb
     exact (I8.pin (b,o) (y7 _ (y7 _ (bE hb e)))).2.1
    ·have e:its.toArray.push yv=(its++[yv]).toArray:=by simp
     rw[<- e];exact hl'
 exact codeAny_compStart_list loop (T.self _ 0 _ _ _ st0 loop)
theorem J9 (hc:X.calm=true) (hi:PI X target iter wi) (hg:∀s H ex,PG (X.comp scope N s H ex) target g) (ht:∀s H ex,Fb (X.comp scope N s H ex) ifs tc) (he:∀s H ex,PE (X.comp scope N s H ex) elt te)
  (hk:scope.kind=.function) (hnm:jX scope=true) (hf:az scope X.env=true) (hx:ip scope X.N N ix=true) (hs:∀x,qT iter X.env x=pure x):
  PE X (.ListComp elt [⟨target,iter,ifs,0⟩] scope pos) (fun σ H Q=>wi σ H fun J H1=>Fe J (gy ix σ) g tc te H1 fun ys H2=>∀p,H2 p=none->Q (.ref p) (t6 H2 p (.lst ys))):=by
 intro pins s σ H Q I h
 rw[eval_ListComp]
 refine Ae (use:=none) rfl hs (eD (I.closed hf)) hk (fun x hx hl=>(il hnm hx).trans (by rw[hl])) ?_
 refine Q9 (hi pins s σ H _ I h) fun v s1 h1=>Q9 h1 fun itv s2 h2=>?_
 obtain ⟨it,fp,tn,J,H2,e,I2,T,st2,f2,B⟩:=h2
 subst e
 refine uV (RR:=fun acc C=>compPost (y6 X.prog X.w) X.A X.xe none (EP X pins σ Q) acc C) hc hk hnm hf hx hg ht (he _ _ _) I2 T st2 f2 B ?_
 intro ys H' s' σ' its n J' hD hl hv hz hF
 obtain ⟨m,hm,_⟩:=J'.loc
 exact ⟨m,hm,fun h' hs'=>⟨.ref s2.heap.objs.size,_,I2.comp_end J' f2 hD hl hv hz hs',rfl,hF _ hD⟩⟩
theorem ic {i:Nat}{y:Str}{py spos:Pos} (hc:X.calm=true) (hN:X.N.Nodup) (hn:X.N[i]?=some y) (hy:X.env.scope.names.lookup y=some .local)
  (hi:PI X target iter wi) (hg:∀s H ex,PG (X.comp scope N s H ex) target g) (ht:∀s H ex,Fb (X.comp scope N s H ex) ifs tc) (he:∀s H ex,PE (X.comp scope N s H ex) elt te)
  (hk:scope.kind=.function) (hnm:jX scope=true) (hf:az scope X.env=true) (hx:ip scope X.N N ix=true) (hs:∀x,qT iter X.env x=pure x)
  (hsw:mz (.ListComp elt [⟨target,iter,ifs,0⟩] scope pos) (some (.Name y py)) spos.line X.env=pure true):
  PS X (.Assign [.Name y py] (.ListComp elt [⟨target,iter,ifs,0⟩] scope pos) spos) (fun D σ H=>wi σ H fun J H1=>Fe J (gy ix σ) g tc te H1 fun ys H2=>∀p,H2 p=none->D.nx (σ.set i (some (.ref p))) (t6 H2 p (.lst ys))):=by
 intro pins s σ H D I h
 rw[exec_Assign_Name_used _ _ _ _ hsw]
 refine b8 (iQ (b8 ?_))
 show r0 _ X.A (do let _ <- comprehension (.ListComp elt [⟨target,iter,ifs,0⟩] scope pos) scope X.env _ (newList []) false (eval iter X.env) (some (oY (.Name y py) X.env))) _ _ s
 refine b8 (Q9 (Ae (use:=some (oY (.Name y py) X.env)) (Q:=fun _ s'=>SP X pins D .next s') rfl hs (eD (I.closed hf)) hk (fun x hx hl=>(il hnm hx).trans (by rw[hl])) ?_) fun _ s' hq=>i8 (i8 hq))
 refine Q9 (hi pins s σ H _ I h) fun v s1 h1=>Q9 h1 fun itv s2 h2=>?_
 obtain ⟨it,fp,tn,J,H2,e,I2,T,st2,f2,B⟩:=h2
 subst e
 refine uV (RR:=fun acc C=>compPost (y6 X.prog X.w) X.A X.xe (some (oY (.Name y py) X.env)) (fun _ s'=>SP X pins D .next s') acc C) hc hk hnm hf hx hg ht (he _ _ _) I2 T st2 f2 B ?_
 intro ys H' s' σ' its n J' hD hl hv hz hF
 obtain ⟨m,hm,_⟩:=J'.loc
 have I3:=I2.comp_end (h':=s'.heap) J' f2 hD hl hv hz (.refl ..)
 show r0 _ X.A (oY (.Name y py) X.env (.ref s2.heap.objs.size)) _ _ _
 refine Kz (qa (v:=.ref s2.heap.objs.size) I3 hN hn (.inl hy) rfl (fun s'' I4 hsb=>?_) (.inr hy))
 obtain ⟨a,sb,ha⟩:=hsb
 have hCa:(Y6 s2).heap.objs.size≠a:=by
  rw[ai]
  rcases ha with z|z
  ·rw[z];exact G6 (O3 I2.lt)
  ·obtain ⟨v,q⟩:=I2.cell y a z
   exact G6 (O3 q.lt)
 have hC2:(t6 H' s2.heap.objs.size (.lst ys)) (Y6 s2).heap.objs.size=none:=by
  rw[B6 (by rw[ai];exact G6 (cK _))]
  exact J'.free
 refine ⟨m,hm.sameBut sb hCa,fun h' hs'=>?_⟩
 refine ⟨_,_,?_,hF _ hD⟩
 obtain ⟨m2,n2,_⟩:=id I4.loc
 refine I4.turned (t':=s''.toks) (it:=(Y6 s2).heap.objs.size) (fun b o hb e=>(hs'.2 b hb).trans e) hC2 ?_ ?_ ?_ ?_
 ·rw[ai];exact G6 (O3 I2.lt)
 ·rw[ai];exact .inr (m8 I2.sz (X0 _))
 ·intro x c e
  obtain ⟨v,q⟩:=I2.cell x c e
  rw[ai];exact w9 (O3 q.lt)
 ·intro p hp
  rw[ai];exact w9 (O3 (m7 (I2.pin p hp).1))
end
section
variable {X:Cx}{pins:List (Addr × Obj)}{σ:St}{H:Hp}{s:d7}{p:Addr}{xs:List V}
variable {A:v7}
theorem nF {E:d6->d7->Prop}{Q:d6->d7->Prop} (I:C6 X pins σ H s) (hh:A.handled=none) (hs:dC X.K H p xs ∨ aQ X.K H p xs)
  (h:∀(its:List d6) (it:Addr) (fp wr:List Addr) (St:Nat->Heap->Prop) (h2:Heap),F2 xs its->Walks X.prog X.w A it fp wr its.length (fun i v=>its[i]?=some v) St->St 0 h2->(∀b∈fp,b<h2.objs.size) ->
   (∀h':Heap,(∀b o,b ∉ wr->h2.get? b=some o->h'.get? b=some o)->∀b o,s.heap.get? b=some o->h'.get? b=some o)->Q (.ref it) { s with heap:=h2 }):
  r0 (y6 X.prog X.w) A (oW (.ref p)) Q E s:=by
 have keep:∀(o:Obj) (h':Heap),(∀b u,b ∉ [s.heap.objs.size]->(s.heap.push o).get? b=some u->h'.get? b=some u)->∀b u,s.heap.get? b=some u->h'.get? b=some u:=fun o h' hk b u e =>
  hk b u (fun hm=>by rw[List.mem_singleton.mp hm] at e;exact O2 _ (m7 e)) (f9 _ e)
 rcases hs with hs|hs
 ·obtain ⟨its,rv,pl,hz⟩:=I.list hs
  have hlt:p<s.heap.objs.size:=by obtain ⟨_,e,_⟩:=pl.isList;exact m7 e
  refine qO pl.isList ?_
  have W:=Walks.list (prog:=X.prog) (w:=X.w) (A:=A) hh s.heap.objs.size p (w9 hlt) its.toArray
  refine h its s.heap.objs.size [s.heap.objs.size,p] [s.heap.objs.size] (fun i h=>h.IsListIter s.heap.objs.size p i/\h.IsList p its.toArray) _ rv (by simpa using W) ⟨⟨_,q9 _ rfl,rfl,rfl⟩,pl.isList.push _⟩ (fun b hb=>?_) (keep _)
  rw[G9]
  rcases List.mem_cons.mp hb with rfl|hb
  ·exact cK _
  ·rw[List.mem_singleton.mp hb];exact O3 hlt
 ·obtain ⟨its,rv,pl,hz⟩:=I.tuple hs
  have pl':s.heap.IsTuple p its.toArray:=pl
  have hlt:p<s.heap.objs.size:=pl.lt
  refine oS pl' ?_
  have W:=Walks.tuple (prog:=X.prog) (w:=X.w) (A:=A) hh s.heap.objs.size p (w9 hlt) its.toArray
  refine h its s.heap.objs.size [s.heap.objs.size,p] [s.heap.objs.size] (fun i h=>h.IsTupleIter s.heap.objs.size p i/\h.IsTuple p its.toArray) _ rv (by simpa using W) ⟨⟨_,q9 _ rfl,rfl,rfl⟩,pl'.push _⟩ (fun b hb=>?_) (keep _)
  rw[G9]
  rcases List.mem_cons.mp hb with rfl|hb
  ·exact cK _
  ·rw[List.mem_singleton.mp hb];exact O3 hlt
noncomputable def IJ (ns:List Int) (i:Nat):Int:=(ns[i]?).getD 0
theorem nQ (ns:List Int):∀k,preSum (IJ ns) k=(ns.take k).sum
 | 0=>by simp[preSum]
 | k+1=>by
  rw[preSum,nQ ns k,C2,List.sum_append]
  unfold IJ
  cases ns[k]? <;> simp
theorem AE {ns:List Int}{its:List d6} (r:F2 (ns.map V.int) its) {i:Nat}{v:d6} (e:its[i]?=some v):∃t,v=.int (IJ ns i) t:=by
 have hl:=r.length
 rw[b9] at hl
 have hi:i<ns.length:=by rw[hl];exact (List.getElem?_eq_some_iff.mp e).1
 obtain ⟨u,hu,ru⟩:=r.get (i:=i) (x:=.int ns[i]) (by rw[n8,d9 hi];rfl)
 rw[e] at hu;cases hu
 obtain ⟨t,rfl⟩:=ru
 exact ⟨t,by unfold IJ;rw[d9 hi];rfl⟩
theorem aP (hc:X.calm=true):bp X (.builtin "sum") (fun xs H Q=>∃(p:Addr) (ns:List Int),xs=[.ref p]/\(dC X.K H p (ns.map V.int) ∨ aQ X.K H p (ns.map V.int))/\Q (.int ns.sum) H):=by
 intro pins s σ H xs us Q I r h
 obtain ⟨p,ns,rfl,hs,q⟩:=h
 obtain ⟨u,rfl,ru⟩:=jf r
 cases ru
 refine call_sum_walkG (nF (A:=X.A.in1) I (I.ok.hd hc) hs fun its it fp wr St h2 rv W st hfp keep=>?_)
 refine ⟨it,fp,wr,its.length,_,St,IJ ns,rfl,W,st,hfp,fun i v e=>AE rv e,fun h' tk t' hk=>?_⟩
 have e:preSum (IJ ns) its.length=ns.sum:=by
  rw[nQ,<- rv.length,b9,D8]
 rw[e]
 exact ⟨.int ns.sum,H,I.kept (keep h' hk),⟨_,rfl⟩,q⟩
noncomputable def jN:V->Bool
 | .bl b=>b
 | .int i=>i != 0
 | .non=>false
 | _=>true
noncomputable def uo:V->Bool
 | .bl _=>true
 | .int _=>true
 | .non=>true
 | _=>false
theorem DZ {E:d6->d7->Prop}{x:V}{v:d6}{s:d7}{Q:Bool->d7->Prop} (r:G8 x v) (ok:uo x=true) (h:Q (jN x) s):r0 (y6 X.prog X.w) A (truthy v) Q E s:=by
 cases x with
 | bl b=>cases r;exact O6 h
 | int i=>obtain ⟨t,rfl⟩:=r;exact PyProof.Rows.truthy_int h
 | non=>cases r;exact PyProof.Rows.truthy_none h
 | _=>exact absurd (show false=true from ok) A3
noncomputable def pq (d:Bool) (xs:List V) (i:Nat):Bool:=((xs[i]?).map jN).getD d
theorem EX (xs:List V):(D4 xs.length).all (pq true xs)=xs.all jN:=by
 rw[aJ,Fn,Fn]
 constructor
 ·intro h b hb
  obtain ⟨i,hi,e⟩:=Av hb
  have:=h i (List.mem_range.mpr hi)
  unfold pq at this
  rw[d9 hi,e] at this
  exact this
 ·intro h i hi
  have hi':=List.mem_range.mp hi
  unfold pq
  rw[d9 hi']
  exact h _ (F7 hi')
theorem EW (xs:List V):(D4 xs.length).any (pq false xs)=xs.any jN:=by
 rw[aJ,Fm,Fm]
 constructor
 ·rintro ⟨i,hi,e⟩
  have hi':=List.mem_range.mp hi
  unfold pq at e
  rw[d9 hi'] at e
  exact ⟨_,F7 hi',e⟩
 ·rintro ⟨b,hb,e⟩
  obtain ⟨i,hi,rfl⟩:=Av hb
  refine ⟨i,List.mem_range.mpr hi,?_⟩
  unfold pq
  rw[d9 hi]
  exact e
theorem lL {its:List d6} (d:Bool) (rv:F2 xs its) (ok:xs.all uo=true):TruthOf X.prog X.w A (fun i v=>its[i]?=some v) (pq d xs):=by
 intro i v s Q E e hQ
 have hi:i<xs.length:=by rw[rv.length];exact (List.getElem?_eq_some_iff.mp e).1
 obtain ⟨u,hu,ru⟩:=rv.get (i:=i) (x:=xs[i]) (by rw[d9 hi])
 rw[e] at hu;cases hu
 refine DZ (X:=X) ru (List.all_eq_true.mp ok _ (F7 hi)) ?_
 unfold pq at hQ
 rw[d9 hi] at hQ
 exact hQ
theorem Z4 (hc:X.calm=true):bp X (.builtin "all") (fun xs H Q=>∃(p:Addr) (ys:List V),xs=[.ref p]/\(dC X.K H p ys ∨ aQ X.K H p ys)/\ys.all uo=true/\Q (.bl (ys.all jN)) H):=by
 intro pins s σ H xs us Q I r h
 obtain ⟨p,ys,rfl,hs,ok,q⟩:=h
 obtain ⟨u,rfl,ru⟩:=jf r
 cases ru
 refine call_all_walk (nF (A:=X.A.in1) I (I.ok.hd hc) hs fun its it fp wr St h2 rv W st hfp keep=>?_)
 refine ⟨it,fp,wr,its.length,_,St,pq true ys,rfl,W,st,lL true rv ok,fun h' tk hk=>?_⟩
 rw[<- rv.length,EX]
 exact ⟨.bl _,H,I.kept (keep h' hk),rfl,q⟩
theorem kD (hc:X.calm=true):bp X (.builtin "any") (fun xs H Q=>∃(p:Addr) (ys:List V),xs=[.ref p]/\(dC X.K H p ys ∨ aQ X.K H p ys)/\ys.all uo=true/\Q (.bl (ys.any jN)) H):=by
 intro pins s σ H xs us Q I r h
 obtain ⟨p,ys,rfl,hs,ok,q⟩:=h
 obtain ⟨u,rfl,ru⟩:=jf r
 cases ru
 refine call_any_walk (nF (A:=X.A.in1) I (I.ok.hd hc) hs fun its it fp wr St h2 rv W st hfp keep=>?_)
 refine ⟨it,fp,wr,its.length,_,St,pq false ys,rfl,W,st,lL false rv ok,fun h' tk hk=>?_⟩
 rw[<- rv.length,EW]
 exact ⟨.bl _,H,I.kept (keep h' hk),rfl,q⟩
end
section
variable {prog:j9}{w:t9}{A:v7}{E:d6->d7->Prop}{s:d7}
theorem wH {it t:Addr}{i:Nat}{its:Array d6}{x:d6}{Q:d6->d7->Prop} (hit:s.heap.IsTupleIter it t i) (ht:s.heap.IsTuple t its) (hx:its[i]?=some x)
  (hQ:∀h',h'.IsTupleIter it t (i+1)->R6 it s.heap h'->Q x { s with heap:=h' }):r0 (y6 prog w) A (D7 (.ref it)) Q E s:=by
 obtain ⟨o,ho,hc,hd⟩:=id hit
 obtain ⟨ol,hol,_,nl,hdl⟩:=ht
 unfold D7
 refine b8 (G2 (name:=U3 "__next__") hit.typeIs ax
  (M7 ax hit.typeIs vA ?_ (tI _)))
 show r0 _ _ (De (.ref it) 0 >>= _) _ _ s
 refine b8 (D3 ho hd (x:=.ref t) rfl ?_)
 show r0 _ _ (if (B1 t == D9)=true then _ else _) _ _ s
 rw[if_neg (show ¬ ((B1 t == D9)=true) from A3)]
 show r0 _ _ (De (.ref it) 1 >>= _) _ _ s
 refine b8 (D3 ho hd (x:=.int i 0) rfl ?_)
 show r0 _ _ (seqItems? (.ref t) >>= _) _ _ s
 refine b8 (aC hol hdl ?_)
 simp only[Q8,hx]
 refine b8 (cJ ho hd (by simp) (i8 ⟨x,rfl,i8 (hQ _ ?_ (Y8 ..))⟩))
 exact ⟨_,Y7 _ ho (cE (S3 hd _)),(Fh ..).trans hc,by
  rw[S3 hd];simp[bQ]⟩
end
section
variable {prog:j9}{w:t9}{A:v7}{E:d6->d7->Prop}{s:d7}
variable {it:Addr}{i:Nat}{its:Array d6}{Q:d6->d7->Prop}
theorem zo {t:Addr}(hh:A.handled=none) (hit:s.heap.IsTupleIter it t i) (ht:s.heap.IsTuple t its) (hx:its[i]?=none)
  (hE:∀h' e,Ac it s.heap h'->(∃o,h'.get? e=some o/\o.cls=.type "StopIteration")->E (.ref e) { s with heap:=h' }):r0 (y6 prog w) A (D7 (.ref it)) Q E s:=by
 obtain ⟨o,ho,hc,hd⟩:=id hit
 obtain ⟨ol,hol,_,nl,hdl⟩:=ht
 unfold D7
 refine b8 (G2 (name:=U3 "__next__") hit.typeIs ax
  (M7 ax hit.typeIs vA ?_ (tI _)))
 show r0 _ _ (De (.ref it) 0 >>= _) _ _ s
 refine b8 (D3 ho hd (x:=.ref t) rfl ?_)
 show r0 _ _ (if (B1 t == D9)=true then _ else _) _ _ s
 rw[if_neg (show ¬ ((B1 t == D9)=true) from A3)]
 show r0 _ _ (De (.ref it) 1 >>= _) _ _ s
 refine b8 (D3 ho hd (x:=.int i 0) rfl ?_)
 show r0 _ _ (seqItems? (.ref t) >>= _) _ _ s
 refine b8 (aC hol hdl ?_)
 simp only[Q8,hx]
 refine b8 (gr (b8 (cJ ho hd (by simp) ?_)))
 show r0 _ _ (newExc (.type "StopIteration") [] >>= _) _ _ _
 refine b8 ?_
 simp only[newExc,newTuple]
 refine b8 (C9 ?_ (by size_fits))
 refine b8 (m:=mf _ _) (FS (a:=D9) (by first|rfl | (simp only[mf];rfl)) ?_)
 refine C9 ?_ (by size_fits)
 simp only[raiseNew]
 refine b8 (wpAny_handled ?_)
 first|rw[show A.in1.handled=none from hh]|rw[hh]
 exact b8 (i8 (wpAny_throw (hE _ _ (((Y8 ..).extBut.push _).push _) ⟨_,q9 _ rfl,rfl⟩)))
noncomputable def Dy:Bool->m9->Hp->Addr->List V->Prop
 | false=>aQ
 | true=>dC
noncomputable def tm:Bool->Heap->Addr->Array d6->Prop
 | false=>Heap.IsTuple
 | true=>Heap.IsList
noncomputable def vG:Bool->Heap->Addr->Addr->Nat->Prop
 | false=>Heap.IsTupleIter
 | true=>Heap.IsListIter
noncomputable def itN:Bool->String
 | false=>"tuple_iterator"
 | true=>"list_iterator"
noncomputable abbrev Jq (p:Bool) (t:Addr):Obj:={ cls:=.type (itN p),data:=.fields #[.ref t,.int 0 0] }
variable {h:Heap}{a:Addr}
theorem _root_.PySem.Heap.IsList.at' {h':Heap}{items:Array d6} (x:h.IsList a items) (e:∀o,h.get? a=some o->h'.get? a=some o):h'.IsList a items:=let ⟨o,ho,r⟩:=x;⟨o,e _ ho,r⟩
theorem tm.at {p:Bool}{h h':Heap}{a:Addr}{xs:Array d6} (x:tm p h a xs) (e:∀o,h.get? a=some o->h'.get? a=some o):tm p h' a xs:=by
 cases p
 ·exact Heap.IsTuple.at x e
 ·exact Heap.IsList.at' x e
variable {p:Bool}{xs:Array d6}
theorem tm.lt (x:tm p h a xs):a<h.objs.size:=by
 cases p <;> exact let ⟨_,ho,_⟩:=x;m7 ho
theorem vG.at {p:Bool}{h h':Heap}{a t:Addr}{k:Nat} (x:vG p h a t k) (e:∀o,h.get? a=some o->h'.get? a=some o):vG p h' a t k:=by
 cases p
 ·exact Heap.IsTupleIter.at x e
 ·exact Heap.IsListIter.at x e
variable {k:Nat}
theorem vG.ob {t:Addr}(x:vG p h a t k):∃o,h.get? a=some o/\o.data=.fields #[.ref t,.int k 0]:=by
 cases p <;> exact let ⟨o,ho,_,hd⟩:=x;⟨o,ho,hd⟩
theorem vG.new {t:Addr} (e:h.get? a=some (Jq p t)):vG p h a t 0:=by
 cases p <;> exact ⟨_,e,rfl,rfl⟩
theorem nX {t:Addr}{x:d6}(hit:vG p s.heap it t i) (ht:tm p s.heap t its) (hx:its[i]?=some x)
  (hQ:∀h',vG p h' it t (i+1)->R6 it s.heap h'->Q x { s with heap:=h' }):r0 (y6 prog w) A (D7 (.ref it)) Q E s:=by
 cases p
 ·exact wH hit ht hx hQ
 ·exact wpAny_nextOf_list_item hit ht hx hQ
theorem zp {t:Addr}(hh:A.handled=none) (hit:vG p s.heap it t i) (ht:tm p s.heap t its) (hx:its[i]?=none)
  (hE:∀h' e,Ac it s.heap h'->(∃o,h'.get? e=some o/\o.cls=.type "StopIteration")->E (.ref e) { s with heap:=h' }):r0 (y6 prog w) A (D7 (.ref it)) Q E s:=by
 cases p
 ·exact zo hh hit ht hx hE
 ·exact wpAny_nextOf_list_end hh hit ht hx hE
theorem FH {t:Addr}(ht:tm p s.heap t xs) (h:Q (.ref s.heap.objs.size) { s with heap:=s.heap.push (Jq p t) }):r0 (y6 prog w) A (oW (.ref t)) Q E s:=by
 cases p
 ·exact oS ht h
 ·exact qO ht h
structure zU (p q:Bool) (h:Heap) (z TI TO i1 i2 t1 t2:Addr) (k:Nat):Prop where
 zz:yV h z TI TO .none
 ti:pe h TI (.ref i1) (.ref i2)
 tO:∃a b,pe h TO a b
 it1:vG p h i1 t1 k
 it2:vG q h i2 t2 k
structure xh (z TI TO i1 i2 t1 t2:Addr):Prop where
 a1:TI≠z
 a2:TO≠z
 a3:i1≠z
 a4:i2≠z
 b1:TI≠TO
 b2:TI≠i1
 b3:TI≠i2
 c1:TO≠i1
 c2:TO≠i2
 d1:i1≠i2
 e1:t1≠z
 e2:t1≠TO
 e3:t1≠i1
 e4:t1≠i2
 f1:t2≠z
 f2:t2≠TO
 f3:t2≠i1
 f4:t2≠i2
variable {n:Nat}
theorem ej {a b:Nat} (h:a≠b):n+a≠n+b:=by lia
theorem lR {a t:Nat} (h:t<n):t≠n+a:=by lia
theorem xh.new {t1 t2:Nat} (h1:t1<n) (h2:t2<n):xh (n+4) (n+2) (n+3) n (n+1) t1 t2 where
 a1:=ej (by decide)
 a2:=ej (by decide)
 a3:=ej (n:=n) (a:=0) (by decide)
 a4:=ej (by decide)
 b1:=ej (by decide)
 b2:=ej (n:=n) (b:=0) (by decide)
 b3:=ej (by decide)
 c1:=ej (n:=n) (b:=0) (by decide)
 c2:=ej (by decide)
 d1:=ej (n:=n) (a:=0) (by decide)
 e1:=lR h1
 e2:=lR h1
 e3:=lR (a:=0) h1
 e4:=lR h1
 f1:=lR h2
 f2:=lR h2
 f3:=lR (a:=0) h2
 f4:=lR h2
variable {q:Bool}{t1 t2:Addr}
theorem yX {z TI TO i1 i2:Addr}{ys:Array d6}{x y:d6}{Q:Option d6->d7->Prop} (D:xh z TI TO i1 i2 t1 t2) (Z:zU p q s.heap z TI TO i1 i2 t1 t2 k) (hl1:tm p s.heap t1 xs) (hl2:tm q s.heap t2 ys)
  (hx:xs[k]?=some x) (hy:ys[k]?=some y)
  (hQ:∀h',yV h' z TI TO (bQ s.heap.objs.size)->pe h' TO x y->vG p h' i1 t1 (k+1)->vG q h' i2 t2 (k+1)->pe h' s.heap.objs.size x y->h'.objs.size=s.heap.objs.size+1 ->
   (∀c o,c ∉ [z,TO,i1,i2]->s.heap.get? c=some o->h'.get? c=some o)->Q (some (.ref s.heap.objs.size)) { s with heap:=h' }):
  r0 (y6 prog w) A (jI (.ref z)) Q E s:=by
 obtain ⟨hz,hTI,⟨a,b,hTO⟩,h1,h2⟩:=Z
 have hT:s.TypeIs (.ref z) "zip":=⟨_,hz,rfl⟩
 unfold jI
 refine b8 (bt (G2 (name:=U3 "__next__") hT jE (M7 jE hT Jd ?_ (IE _))))
 show r0 _ _ (De (.ref z) 2 >>= _) _ _ _
 refine b8 (D3 hz rfl (x:=.bool false) rfl ?_)
 show r0 _ _ (De (.ref z) 3 >>= _) _ _ _
 refine b8 (D3 hz rfl (x:=.ref TI) rfl (b8 (aC hTI rfl ?_)))
 show r0 _ _ (O8 (.ref z) >>= _) _ _ _
 refine b8 ?_
 unfold O8
 refine b8 (D3 hz rfl (x:=.none) rfl (i8 ?_))
 simp only[if_true]
 refine b8 (gr (b8 (D3 hz rfl (x:=.ref TO) rfl (b8 (L7 hz (by simp) fun g1 z1 s1=>?_)))))
 replace z1:yV g1 z TI TO .ellipsis:=z1
 refine b8 ?_
 simp only[Fj,Ga,dA,eE]
 refine b8 (b8 (oK ?_))
 show r0 _ _ (D7 (.ref i1) >>= _) _ _ _
 refine b8 (nX (h1.at fun o e=>s1.extBut _ o D.a3 e) (hl1.at fun o e=>s1.extBut _ o D.e1 e) hx fun g2 j1 s2=>i8 ?_)
 have o2:pe g2 TO a b:=s2.extBut _ _ D.c1 (s1.extBut _ _ D.a2 hTO)
 refine b8 (aC o2 rfl (b8 (FR o2 fun g3 o3 s3=>?_)))
 replace o3:pe g3 TO x b:=o3
 refine b8 (FT (i8 (b8 (b8 (oK ?_)))))
 show r0 _ _ (D7 (.ref i2) >>= _) _ _ _
 refine b8 (nX (h2.at fun o e=>s3.extBut _ o D.c2.symm (s2.extBut _ o D.d1.symm (s1.extBut _ o D.a4 e))) (hl2.at fun o e=>s3.extBut _ o D.f2 (s2.extBut _ o D.f3 (s1.extBut _ o D.f1 e))) hy fun g4 j2 s4=>i8 ?_)
 have o4:pe g4 TO x b:=s4.extBut _ _ D.c2 o3
 refine b8 (aC o4 rfl (b8 (FR o4 fun g5 o5 s5=>?_)))
 replace o5:pe g5 TO x y:=o5
 refine b8 (FT (i8 (i8 ?_)))
 refine b8 (aC o5 rfl (b8 (yJ ?_)))
 have hsz:g5.objs.size=s.heap.objs.size:=by rw[s5.1,s4.1,s3.1,s2.1,s1.1]
 have z5:yV g5 z TI TO .ellipsis:=s5.extBut _ _ D.a2.symm (s4.extBut _ _ D.a4.symm (s3.extBut _ _ D.a2.symm (s2.extBut _ _ D.a3.symm z1)))
 have k5:∀c o,c ∉ [z,TO,i1,i2]->s.heap.get? c=some o->g5.get? c=some o:=fun c o hc e=>by
  simp only[C1,C0,or_false,not_or] at hc
  exact s5.extBut _ _ hc.2.1 (s4.extBut _ _ hc.2.2.2 (s3.extBut _ _ hc.2.1 (s2.extBut _ _ hc.2.2.1 (s1.extBut _ _ hc.1 e))))
 have m1:vG p g5 i1 t1 (k+1):=j1.at fun o e=>s5.extBut _ o D.c1.symm (s4.extBut _ o D.d1 (s3.extBut _ o D.c1.symm e))
 have m2:vG q g5 i2 t2 (k+1):=j2.at fun o e=>s5.extBut _ o D.c2.symm e
 show r0 _ _ (eG (.ref z) (.ref g5.objs.size) >>= _) _ _ _
 refine b8 ?_
 unfold eG
 have z6:yV (g5.push { cls:=.type "tuple",data:=.seq #[x,y] }) z TI TO .ellipsis:=f9 _ z5
 refine b8 (L7 z6 (by simp) fun g7 z7 s7=>?_)
 replace z7:yV g7 z TI TO (bQ g5.objs.size):=z7
 refine L7 z7 (by simp) fun g8 z8 s8=>?_
 replace z8:yV g8 z TI TO (bQ g5.objs.size):=z8
 have up:∀c o,c≠z->g5.get? c=some o->g8.get? c=some o:=fun c o hc e=>s8.extBut _ _ hc (s7.extBut _ _ hc (f9 _ e))
 have new8:pe g8 g5.objs.size x y:=s8.extBut _ _ (G6 (m7 z5)) (s7.extBut _ _ (G6 (m7 z5)) (q9 _ rfl))
 have size8:g8.objs.size=g5.objs.size+1:=by rw[s8.1,s7.1,G9]
 rw[hsz] at z8 new8 size8
 refine i8 ⟨_,rfl,i8 ?_⟩
 show Q (some (.ref g5.objs.size)) _
 rw[hsz]
 exact hQ g8 z8 (up _ _ D.a2 o5) (m1.at fun o e=>up _ o D.a3 e) (m2.at fun o e=>up _ o D.a4 e) new8 size8 fun c o hc e=>up c o (fun q=>hc (by simp[q])) (k5 c o hc e)
theorem AB {z TI TO i1 i2:Addr}{Q:Option d6->d7->Prop} (hh:A.handled=none) (D:xh z TI TO i1 i2 t1 t2) (Z:zU p q s.heap z TI TO i1 i2 t1 t2 k) (hl1:tm p s.heap t1 xs)
  (hx:xs[k]?=none) (hQ:∀h',(∀c o,c ∉ [z,TO,i1,i2]->s.heap.get? c=some o->h'.get? c=some o)->Q none { s with heap:=h' }):r0 (y6 prog w) A (jI (.ref z)) Q E s:=by
 obtain ⟨hz,hTI,⟨a,b,hTO⟩,h1,h2⟩:=Z
 have hT:s.TypeIs (.ref z) "zip":=⟨_,hz,rfl⟩
 unfold jI
 refine b8 (bt (G2 (name:=U3 "__next__") hT jE (M7 jE hT Jd ?_ (IE _))))
 show r0 _ _ (De (.ref z) 2 >>= _) _ _ _
 refine b8 (D3 hz rfl (x:=.bool false) rfl ?_)
 show r0 _ _ (De (.ref z) 3 >>= _) _ _ _
 refine b8 (D3 hz rfl (x:=.ref TI) rfl (b8 (aC hTI rfl ?_)))
 show r0 _ _ (O8 (.ref z) >>= _) _ _ _
 refine b8 ?_
 unfold O8
 refine b8 (D3 hz rfl (x:=.none) rfl (i8 ?_))
 simp only[if_true]
 refine b8 (gr (b8 (D3 hz rfl (x:=.ref TO) rfl (b8 (L7 hz (by simp) fun g1 z1 s1=>?_)))))
 replace z1:yV g1 z TI TO .ellipsis:=z1
 refine b8 ?_
 simp only[Fj,Ga,dA,eE]
 refine b8 (b8 (oK ?_))
 show r0 _ _ (D7 (.ref i1) >>= _) _ _ _
 refine b8 (zp hh (h1.at fun o e=>s1.extBut _ o D.a3 e) (hl1.at fun o e=>s1.extBut _ o D.e1 e) hx fun g2 e s2 he=>?_)
 obtain ⟨oe,hoe,hce⟩:=he
 have z2:yV g2 z TI TO .ellipsis:=s2 _ _ D.a3.symm z1
 have hez:e≠z:=fun q=>by subst q;rw[z2] at hoe;cases hoe;simp at hce
 refine L7 z2 (by simp) fun g3 _ s3=>?_
 refine b8 (KQ (T:="StopIteration") (b:=true) ⟨oe,s3.extBut _ _ hez hoe,hce⟩ isSubtype_stop (i8 (hQ g3 fun c o hc q=>?_)))
 simp only[C1,C0,or_false,not_or] at hc
 exact s3.extBut _ _ hc.1 (s2 _ _ hc.2.2.1 (s1.extBut _ _ hc.1 q))
noncomputable abbrev tpr (a b:d6):Obj:={ cls:=.type "tuple",data:=.seq #[a,b] }
noncomputable abbrev zob (a b:Addr):Obj:={ cls:=.type "zip",data:=.fields #[.none,.bool false,.bool false,.ref a,.ref b] }
noncomputable abbrev Fp (p q:Bool) (h:Heap) (t1 t2:Addr):Heap:=((((h.push (Jq p t1)).push (Jq q t2)).push (tpr (.ref h.objs.size) (.ref (h.objs.size+1)))).push (tpr .none .none)).push (zob (h.objs.size+2) (h.objs.size+3))
theorem AA (p q:Bool) (t1 t2:Addr) (xs ys:Array d6):
  Dl (bI.«zip.__new__» ⟨[.type "zip",.ref t1,.ref t2],[]⟩) (fun _ R s=>tm p s.heap t1 xs/\tm q s.heap t2 ys/\R (.ok (.ret (.ref (s.heap.objs.size+4)))) { s with heap:=Fp p q s.heap t1 t2 }):=
 .of_wp fun prog w A R s h=>by
  obtain ⟨hp,g,d,tk,os⟩:=s;obtain ⟨hl1,hl2,h⟩:=h
  have hsub:=sub_zip
  have hL1:tm p (IX ⟨hp,g,d,tk,os⟩) t1 xs:=hl1
  have hL2:tm q (IX ⟨hp.push (Jq p t1),g,d,tk,os⟩) t2 ys:=hl2.at fun o e=>f9 _ e
  wp_walk using FH hL1,FH hL2
  simp only[G9]
  exact ⟨_,rfl,h⟩
theorem zP {ys:Array d6}(hl1:tm p s.heap t1 xs) (hl2:tm q s.heap t2 ys)
  (h:∀h',zU p q h' (s.heap.objs.size+4) (s.heap.objs.size+2) (s.heap.objs.size+3) s.heap.objs.size (s.heap.objs.size+1) t1 t2 0->(∀c o,s.heap.get? c=some o->h'.get? c=some o)->h'.objs.size=s.heap.objs.size+5 ->
   Q (.ref (s.heap.objs.size+4)) { s with heap:=h' }):r0 (y6 prog w) A (call (.type "zip") [.ref t1,.ref t2]) Q E s:=by
 refine callType_new F.called_zip (by decide) (F.typeCall_zip_2 _ _) (F.newCall_zip_2 _ _) (fun obj=>F.args_object_init_3 obj _ _) F.entry_zip_new (AA p q t1 t2 xs ys) ⟨hl1,hl2,?_⟩
 have up:∀{b:Addr}{o:Obj} (h0:Heap) (x:Obj),h0.get? b=some o->(h0.push x).get? b=some o:=fun _ _ e=>f9 _ e
 have here:∀(h0:Heap) (x:Obj) (n:Nat),x.isFreed=false->h0.objs.size=n->(h0.push x).get? n=some x:=fun h0 x n hf e=>by subst e;exact q9 _ hf
 have Z:zU p q (Fp p q s.heap t1 t2) (s.heap.objs.size+4) (s.heap.objs.size+2) (s.heap.objs.size+3) s.heap.objs.size (s.heap.objs.size+1) t1 t2 0 :=
  ⟨here _ _ _ rfl (by simp only[G9]),up _ _ (up _ _ (here _ _ _ rfl (by simp only[G9]))),⟨_,_,up _ _ (here _ _ _ rfl (by simp only[G9]))⟩,
   .new (up _ _ (up _ _ (up _ _ (up _ _ (here _ _ _ rfl rfl))))),.new (up _ _ (up _ _ (up _ _ (here _ _ _ rfl (by simp only[G9])))))⟩
 exact ⟨⟨_,Z.zz,rfl⟩,h _ Z (fun c o e=>up _ _ (up _ _ (up _ _ (up _ _ (up _ _ e))))) (by simp only[G9])⟩
end
section
variable {X:Cx}{pins:List (Addr × Obj)}{σ:St}{H:Hp}{s:d7}
theorem C6.turnedL {h':Heap}{t':Nat}{ch:List Addr} (I:C6 X pins σ H s) (k:∀b o,b ∉ ch->s.heap.get? b=some o->h'.get? b=some o) (hf:∀b∈ch,mw X pins H b):C6 X pins σ H { s with heap:=h',toks:=t' }:=by
 have nit:∀b u,H b=some u->b ∉ ch:=fun b u e z=>by rw[(hf b z).1] at e;cases e
 refine I.step (g':=s.gens) (d':=s.drawn) (ch:=ch) (fun b hb=>⟨(hf b hb).2.2.2.1,(hf b hb).2.1,(hf b hb).2.2.2.2.1,(hf b hb).2.2.2.2.2⟩) (fun b o _ _ hc e _=>k b o hc e) (fun b o _ _ hc e _=>⟨o.slots,k b o hc e⟩) (fun _ _ _ _ n=>n)
  (fun b o hc e=>⟨o,k b o hc e⟩) (fun _ _ e=>e) (fun _ _ _ e=>e) (fun b ps e=>⟨#[],by rw[e];simp⟩) (fun m hm=>?_) (fun b u e=>?_) I.bare
 ·obtain ⟨o,es,ep,ho,r⟩:=hm
  exact ⟨o,es,ep,k _ o (fun z=>(hf _ z).2.1 rfl) ho,r⟩
 ·refine (I.hok b u e).stay (fun c v hc q=>k c v ?_ q) (fun _ q=>q) fun _ _ q=>q
  rcases hc with z|z
  ·rw[z];exact nit b u e
  ·exact nit c _ z
variable {p:Bool}{a:Addr}{xs:List V}
theorem C6.sqB (I:C6 X pins σ H s) (h:Dy p X.K H a xs):∃its:List d6,F2 xs its/\tm p s.heap a its.toArray:=by
 cases p
 ·exact let ⟨its,r,e,_⟩:=I.tuple h;⟨its,r,e⟩
 ·exact let ⟨its,r,e,_⟩:=I.list h;⟨its,r,e.isList⟩
theorem C6.sqB_inj {ys:List V} (I:C6 X pins σ H s) (h:Dy p X.K H a xs) (h':Dy p X.K H a ys):xs=ys:=by
 cases p
 ·exact I.tuple_inj h h'
 ·exact I.list_inj h h'
noncomputable def ItzB (p q:Bool) (K:m9) (a b:Addr):It :=
 ⟨fun i H=>∃xs ys x y,Dy p K H a xs/\Dy q K H b ys/\xs[i]?=some x/\ys[i]?=some y,fun i H v H'=>∃r x y,H r=none/\v=.ref r/\H'=t6 H r (.tup [x,y])/\(∀xs,Dy p K H a xs->xs[i]?=some x)/\∀ys,Dy q K H b ys->ys[i]?=some y,
  fun i H=>∃xs,Dy p K H a xs/\xs.length<=i⟩
variable {es:List Expr}{kk:Nat}
theorem iB {q:Bool}{P:j9}{w:t9}{K:m9}{pos:Pos}{b z TI TO i1 i2:Addr} (D:xh z TI TO i1 i2 a b):
  vi P w K (.Tuple es kk pos) (ItzB p q K a b) [z,TI,TO,i1,i2] z (fun i h=>zU p q h z TI TO i1 i2 a b i) where
 mem:=by simp
 obj:=fun i h st c hc=>by
  obtain ⟨hz,hTI,⟨_,_,hTO⟩,h1,h2⟩:=st
  obtain ⟨_,h1,d1⟩:=h1.ob
  obtain ⟨_,h2,d2⟩:=h2.ob
  simp only[C1,C0,or_false] at hc
  rcases hc with rfl|rfl|rfl|rfl|rfl
  ·exact ⟨_,hz,fun v q=>by cases q⟩
  ·exact ⟨_,hTI,fun v q=>by cases q⟩
  ·exact ⟨_,hTO,fun v q=>by cases q⟩
  ·exact ⟨_,h1,fun v q=>by rw[d1] at q;cases q⟩
  ·exact ⟨_,h2,fun v q=>by rw[d2] at q;cases q⟩
 keep:=fun i h h' st k=>by
  obtain ⟨hz,hTI,⟨_,_,hTO⟩,h1,h2⟩:=st
  exact ⟨k _ (by simp) _ hz,k _ (by simp) _ hTI,⟨_,_,k _ (by simp) _ hTO⟩,h1.at fun o e=>k _ (by simp) o e,h2.at fun o e=>k _ (by simp) o e⟩
 item:=by
  intro X hP hw hK hc i pins s σ H E I hf st hg
  subst hP hw hK
  obtain ⟨xs,ys,x,y,ha,hb,hx,hy⟩:=hg
  obtain ⟨its,r1,p1⟩:=I.sqB ha
  obtain ⟨its2,r2,p2⟩:=I.sqB hb
  obtain ⟨u,hu,ru⟩:=r1.get hx
  obtain ⟨v,hv,rv⟩:=r2.get hy
  refine yX D st p1 p2 (x:=u) (y:=v) (by simpa using hu) (by simpa using hv) fun h' z1 o1 j1 j2 new sz keep=>?_
  refine ⟨_,rfl,wpAny_letOwnedTupleGo_zip (s:={ s with heap:=h' }) z1 fun h2 z2 sb=>?_⟩
  have hn:H s.heap.objs.size=none:=I.hok.fresh (i9 _)
  have zlt:z<s.heap.objs.size:=m7 st.zz
  have k2:∀c o,c ∉ [z,TI,TO,i1,i2]->s.heap.get? c=some o->h2.get? c=some o:=fun c o hc e=>by
   simp only[C1,C0,or_false,not_or] at hc
   exact sb.extBut _ _ hc.1 (keep c o (by simp only[C1,C0,or_false,not_or];exact ⟨hc.1,hc.2.2.1,hc.2.2.2.1,hc.2.2.2.2⟩) e)
  have e0:h2.get? s.heap.objs.size=some { cls:=.type "tuple",data:=.seq #[u,v] }:=sb.extBut _ _ (G6 zlt) new
  have pne:∀c o,s.heap.get? c=some o->c≠s.heap.objs.size:=fun c o e=>w9 (m7 e)
  have nit:∀c u,H c=some u->c ∉ [z,TI,TO,i1,i2]:=fun c u e q=>by rw[(hf c q).1] at e;cases e
  have hok:bh X.prog X.w (t6 H s.heap.objs.size (.tup [x,y])) h2:=fun c ob e=>by
   by_cases hq:c=s.heap.objs.size
   ·subst hq
    rw[f6] at e;cases e
    exact ⟨⟨by show 2<=i7;decide,_,e0,rfl⟩,[u,v],.cons ru (.cons rv .nil),⟨_,e0,rfl,_,rfl⟩⟩
   ·rw[B6 hq] at e
    refine (I.hok c ob e).stay (fun d w' hd q=>k2 d w' ?_ q) (fun d q=>by rw[B6 (v8 q hn)];exact q) fun d xs q=>by rw[B6 (v8 q hn)];exact q
    rcases hd with rfl|hd
    ·exact nit d ob e
    ·exact nit d _ hd
  have I2:C6 X pins σ (t6 H s.heap.objs.size (.tup [x,y])) { s with heap:=h2 }:=by
   refine I.step (g':=s.gens) (d':=s.drawn) (t':=s.toks) (ch:=[z,TI,TO,i1,i2]) (fun c hc=>⟨(hf c hc).2.2.2.1,(hf c hc).2.1,(hf c hc).2.2.2.2.1,(hf c hc).2.2.2.2.2⟩) (fun c o _ _ hc e _=>k2 c o hc e) (fun c o _ _ hc e _=>⟨o.slots,k2 c o hc e⟩)
    (fun c o _ e n=>by rw[B6 (pne c o e)];exact n) (fun c o hc e=>⟨o,k2 c o hc e⟩) (fun c xs e=>by rw[B6 (v8 e hn)];exact e) (fun c o u e=>by rw[B6 (v8 e hn)];exact e) (fun c ps e=>⟨#[],by rw[B6 (v8 e hn),e];simp⟩) (fun m hm=>?_) hok I.bare
   obtain ⟨o,es,ep,ho,r⟩:=hm
   exact ⟨o,es,ep,k2 _ o (fun q=>(hf _ q).2.1 rfl) ho,r⟩
  refine ⟨.ref s.heap.objs.size,_,I2,rfl,⟨_,x,y,hn,rfl,rfl,fun xs' h'=>by rw[I.sqB_inj h' ha];exact hx,fun ys' h'=>by rw[I.sqB_inj h' hb];exact hy⟩,?_,fun c hc=>?_⟩
  ·exact ⟨z2,sb.extBut _ _ D.a1 (keep _ _ (by simp only[C1,C0,or_false,not_or];exact ⟨D.a1,D.b1,D.b2,D.b3⟩) st.ti),⟨_,_,sb.extBut _ _ D.a2 o1⟩,j1.at fun o e=>sb.extBut _ o D.a3 e,j2.at fun o e=>sb.extBut _ o D.a4 e⟩
  ·have hlt:c<s.heap.objs.size:=by
    obtain ⟨hz,hTI,⟨_,_,hTO⟩,h1,h2⟩:=st
    obtain ⟨_,h1,_⟩:=h1.ob
    obtain ⟨_,h2,_⟩:=h2.ob
    simp only[C1,C0,or_false] at hc
    rcases hc with rfl|rfl|rfl|rfl|rfl
    ·exact m7 hz
    ·exact m7 hTI
    ·exact m7 hTO
    ·exact m7 h1
    ·exact m7 h2
   rw[B6 (w9 hlt)]
   exact (hf c hc).1
 done:=by
  intro X hP hw hK hc i pins s σ H E I hf st hg
  subst hP hw hK
  obtain ⟨xs,ha,hx⟩:=hg
  obtain ⟨its,r1,p1⟩:=I.sqB ha
  have hl:=r1.length
  refine AB (I.ok.hd hc) D st p1 (by simp;lia) fun h' keep=>⟨rfl,I.turnedL (t':=s.toks) (ch:=[z,TI,TO,i1,i2]) (fun c o hc e=>keep c o (fun q=>hc ?_) e) hf⟩
  simp only[C1,C0,or_false] at q ⊢
  rcases q with q|q|q|q
  ·exact .inl q
  ·exact .inr (.inr (.inl q))
  ·exact .inr (.inr (.inr (.inl q)))
  ·exact .inr (.inr (.inr (.inr q)))
 self:=fun _ _ _ _ _ st h=>KO st.zz h
theorem jM {q:Bool}{R:It->Hp->Prop}{J:It}{pt:Pos}{b:Addr}{ys:List V} (I:C6 X pins σ H s) (hx:Dy p X.K H a xs) (hy:Dy q X.K H b ys)
  (T:∀{z TI TO i1 i2:Addr},xh z TI TO i1 i2 a b->vi X.prog X.w X.K (.Tuple es kk pt) J [z,TI,TO,i1,i2] z (fun i h=>zU p q h z TI TO i1 i2 a b i)) (h:R J H):
  r0 (y6 X.prog X.w) X.A (call (.type "zip") [.ref a,.ref b]) (fun v s1=>r0 (y6 X.prog X.w) X.A (oW v) (KM X pins σ (.Tuple es kk pt) R) X.xe s1) X.xe s:=by
 obtain ⟨its,r1,p1⟩:=I.sqB hx
 obtain ⟨its2,r2,p2⟩:=I.sqB hy
 refine zP p1 p2 fun h' Z keep sz=>?_
 refine KO (s:={ s with heap:=h' }) Z.zz ?_
 have I2:C6 X pins σ H { s with heap:=h' }:=I.kept (t':=s.toks) keep
 refine ⟨s.heap.objs.size+4,[s.heap.objs.size+4,s.heap.objs.size+2,s.heap.objs.size+3,s.heap.objs.size,s.heap.objs.size+1],_,_,H,rfl,I2,T (xh.new p1.lt p2.lt),Z,fun c hc=>?_,h⟩
 have hge:s.heap.objs.size<=c:=by
  simp only[C1,C0,or_false] at hc
  rcases hc with rfl|rfl|rfl|rfl|rfl <;> first|exact FZ _ _|exact i9 _
 exact I.fpOk hge (I.hok.fresh hge)
theorem rV {D:List V->Hp->(It->Hp->Prop)->Prop}{e1 e2:Expr}{pt p pos:Pos}{ta:TA} (hg:Gl X "zip") (hm:X.mg "zip"=none) (ha:PA X [e1,e2] ta)
  (hD:∀{pins s σ H vs R},C6 X pins σ H s->D vs H R->∃a b,vs=[V.ref a,V.ref b]/\r0 (y6 X.prog X.w) X.A (call (.type "zip") [.ref a,.ref b]) (fun v s1=>r0 (y6 X.prog X.w) X.A (oW v) (KM X pins σ (.Tuple es kk pt) R) X.xe s1) X.xe s)
  (hs:w6 [e1,e2] X.env=[(false,eval e1 X.env),(false,eval e2 X.env)]) (hs2:w6 [e2] X.env=[(false,eval e2 X.env)]):
  PI X (.Tuple es kk pt) (.Call (.Name "zip" p) [e1,e2] [] pos) (fun σ H R=>ta σ H fun vs H1=>D vs H1 R):=by
 intro pins s σ H R I h
 refine Call_ (lu I hg hm boot_zip (cm (Q9 (ha pos pins s σ H _ I h) fun us s1 ⟨vs,H1,I1,r1,q1⟩=>?_) (by rw[hs,hs2]) (by rw[hs2];rfl)))
 obtain ⟨a,b,rfl,q⟩:=hD I1 q1
 cases r1 with
 | cons ra rr =>
  cases rr with
  | cons rb rr =>
   cases rr
   cases ra
   cases rb
   exact q
end
section
variable {X:Cx}
noncomputable def Itz (K:m9) (a b:Addr):It :=
 ⟨fun i H=>∃xs ys x y,aQ K H a xs/\aQ K H b ys/\xs[i]?=some x/\ys[i]?=some y,fun i H v H'=>∃p x y,H p=none/\v=.ref p/\H'=t6 H p (.tup [x,y])/\(∀xs,aQ K H a xs->xs[i]?=some x)/\∀ys,aQ K H b ys->ys[i]?=some y,
  fun i H=>∃xs,aQ K H a xs/\xs.length<=i⟩
noncomputable def iZip (K:m9) (ta:TA):TI:=fun σ H R=>ta σ H fun vs H1=>∃a b xs ys,vs=[.ref a,.ref b]/\aQ K H1 a xs/\aQ K H1 b ys/\R (Itz K a b) H1
theorem GQ {e1 e2:Expr}{es:List Expr}{kk:Nat}{pt p pos:Pos}{ta:TA} (hg:Gl X "zip") (hm:X.mg "zip"=none) (ha:PA X [e1,e2] ta) (hs:w6 [e1,e2] X.env=[(false,eval e1 X.env),(false,eval e2 X.env)]:=by rfl) (hs2:w6 [e2] X.env=[(false,eval e2 X.env)]:=by rfl):
  PI X (.Tuple es kk pt) (.Call (.Name "zip" p) [e1,e2] [] pos) (iZip X.K ta):=
 rV hg hm ha (fun I ⟨_,_,_,_,e,hx,hy,h⟩=>⟨_,_,e,jM (p:=false) (q:=false) I hx hy (fun D=>iB D) h⟩) hs hs2
end
mutual
noncomputable def Dt (st:Addr) (H:Hp):A2->V->Prop
 | .none,v=>v=.non
 | .bool b,v=>v=.bl b
 | .int i,v=>v=.int i
 | .str x,v=>v=.str x
 | .tuple ds,v=>∃a xs,v=.ref a/\a≠st/\H a=some (.tup xs)/\P3 st H ds xs
 | .list ds,v=>∃a xs,v=.ref a/\a≠st/\H a=some (.lst xs)/\P3 st H ds xs
 | .dict _,v=>∃a ks,v=.ref a/\a≠st/\H a=some (.dK ks)
noncomputable def P3 (st:Addr) (H:Hp):List A2->List V->Prop
 | [],xs=>xs=[]
 | d::ds,xs=>∃x r,xs=x::r/\Dt st H d x/\P3 st H ds r
end
noncomputable def Kp (st:Addr) (H H':Hp):Prop:=∀b o,b≠st->H b=some o->H' b=some o
theorem Kp.refl (st:Addr) (H:Hp):Kp st H H:=fun _ _ _ e=>e
theorem Kp.trans {st:Addr}{H1 H2:Hp} (a:Kp st H H1) (b:Kp st H1 H2):Kp st H H2:=fun c o n e=>b c o n (a c o n e)
theorem j7.kp (a:j7 H H') (st:Addr):Kp st H H':=fun b o _ e=>a b o e
variable {o:HO}
theorem j7.new {p:Addr}(h:H p=none):j7 H (t6 H p o):=fun b u q=>by rw[B6 (v8 q h)];exact q
theorem Kp.new {st:Addr}{H:Hp}{p:Addr}{o:HO} (h:H p=none):Kp st H (t6 H p o):=(j7.new h).kp st
theorem Kp.at {st:Addr}:Kp st H (t6 H st o):=fun b u n q=>by rw[B6 n];exact q
mutual
theorem Dt.kp {st:Addr}{H H':Hp} (k:Kp st H H'):∀{d:A2}{v:V},Dt st H d v->Dt st H' d v
 | .none,_,h=>by unfold Dt at h ⊢;exact h
 | .bool _,_,h=>by unfold Dt at h ⊢;exact h
 | .int _,_,h=>by unfold Dt at h ⊢;exact h
 | .str _,_,h=>by unfold Dt at h ⊢;exact h
 | .tuple ds,_,h=>by
  unfold Dt at h ⊢
  obtain ⟨a,xs,e,n,q,r⟩:=h
  exact ⟨a,xs,e,n,k a _ n q,P3.kp k r⟩
 | .list ds,_,h=>by
  unfold Dt at h ⊢
  obtain ⟨a,xs,e,n,q,r⟩:=h
  exact ⟨a,xs,e,n,k a _ n q,P3.kp k r⟩
 | .dict kvs,_,h=>by
  unfold Dt at h ⊢
  obtain ⟨a,ks,e,n,q⟩:=h
  exact ⟨a,ks,e,n,k a _ n q⟩
theorem P3.kp {st:Addr}{H H':Hp} (k:Kp st H H'):∀{ds:List A2}{xs:List V},P3 st H ds xs->P3 st H' ds xs
 | [],_,h=>by unfold P3 at h ⊢;exact h
 | d::ds,_,h=>by
  unfold P3 at h ⊢
  obtain ⟨x,r,e,q1,q2⟩:=h
  exact ⟨x,r,e,Dt.kp k q1,P3.kp k q2⟩
end
theorem Dt.int (st:Addr) (H:Hp) (i:Int):Dt st H (.int i) (.int i):=by unfold Dt;rfl
theorem Dt.bl (st:Addr) (H:Hp) (b:Bool):Dt st H (.bool b) (.bl b):=by unfold Dt;rfl
theorem Dt.non (st:Addr) (H:Hp):Dt st H .none .non:=by unfold Dt;rfl
theorem Dt.str (st:Addr) (H:Hp) (x:Str):Dt st H (.str x) (.str x):=by unfold Dt;rfl
theorem Dt.tup {st:Addr}{H:Hp}{a:Addr}{xs:List V}{ds:List A2} (n:a≠st) (h:H a=some (.tup xs)) (r:P3 st H ds xs):Dt st H (.tuple ds) (.ref a):=by unfold Dt;exact ⟨a,xs,rfl,n,h,r⟩
theorem Dt.lst {st:Addr}{H:Hp}{a:Addr}{xs:List V}{ds:List A2} (n:a≠st) (h:H a=some (.lst xs)) (r:P3 st H ds xs):Dt st H (.list ds) (.ref a):=by unfold Dt;exact ⟨a,xs,rfl,n,h,r⟩
theorem P3.nil (st:Addr) (H:Hp):P3 st H [] []:=by unfold P3;rfl
theorem P3.cons {st:Addr}{H:Hp}{d:A2}{ds:List A2}{x:V}{xs:List V} (h:Dt st H d x) (r:P3 st H ds xs):P3 st H (d::ds) (x::xs):=by unfold P3;exact ⟨x,xs,rfl,h,r⟩
theorem P3.uncons {st:Addr}{d:A2}{ds:List A2}{xs:List V} (h:P3 st H (d::ds) xs):∃x r,xs=x::r/\Dt st H d x/\P3 st H ds r:=by unfold P3 at h;exact h
theorem P3.len {st:Addr}{H:Hp}:∀{ds:List A2}{xs:List V},P3 st H ds xs->ds.length=xs.length
 | [],_,h=>by unfold P3 at h;subst h;rfl
 | d::ds,_,h=>by
  obtain ⟨x,r,e,_,q⟩:=h.uncons
  subst e
  rw[r6,r6,P3.len q]
theorem P3.append {st:Addr}{H:Hp}:∀{ds es:List A2}{xs ys:List V},P3 st H ds xs->P3 st H es ys->P3 st H (ds++es) (xs++ys)
 | [],_,_,_,h,q=>by unfold P3 at h;subst h;exact q
 | d::ds,_,_,_,h,q=>by
  obtain ⟨x,r,e,h1,h2⟩:=h.uncons
  subst e
  exact P3.cons h1 (P3.append h2 q)
theorem P3.get {st:Addr}{H:Hp}:∀{ds:List A2}{xs:List V}{i:Nat}{x:V},P3 st H ds xs->xs[i]?=some x->∃d,ds[i]?=some d/\Dt st H d x
 | [],_,i,x,h,e=>by unfold P3 at h;subst h;simp at e
 | d::ds,_,0,x,h,e=>by
  obtain ⟨y,r,e1,h1,h2⟩:=h.uncons
  subst e1
  simp at e;subst e
  exact ⟨d,rfl,h1⟩
 | d::ds,_,i+1,x,h,e=>by
  obtain ⟨y,r,e1,h1,h2⟩:=h.uncons
  subst e1
  obtain ⟨d',e2,h3⟩:=P3.get (i:=i) (x:=x) h2 (by simpa using e)
  exact ⟨d',by simpa using e2,h3⟩
theorem P3.ints (st:Addr) (H:Hp):∀ns:List Int,P3 st H (ns.map G4) (ns.map V.int)
 | []=>P3.nil st H
 | n::ns=>P3.cons (Dt.int st H n) (P3.ints st H ns)
theorem P3.ints_eq {st:Addr}{H:Hp}:∀{ns:List Int}{xs:List V},P3 st H (ns.map G4) xs->xs=ns.map V.int
 | [],_,h=>by unfold P3 at h;exact h
 | n::ns,_,h=>by
  rw[B9] at h
  obtain ⟨x,r,e,h1,h2⟩:=h.uncons
  unfold Dt at h1
  rw[e,h1,P3.ints_eq h2,B9]
noncomputable abbrev DI (ns:List Int):A2:=.tuple (ns.map .int)
variable {ns:List Int}{v:V}
theorem Dt.di {st:Addr}(h:Dt st H (DI ns) v):∃a,v=.ref a/\a≠st/\H a=some (.tup (ns.map V.int)):=by
 unfold DI Dt at h
 obtain ⟨a,xs,e,n,q,r⟩:=h
 exact ⟨a,e,n,by rw[q,r.ints_eq]⟩
variable {a:Addr}
theorem Dt.mkI {st:Addr}(n:a≠st) (h:H a=some (.tup (ns.map V.int))):Dt st H (DI ns) (.ref a):=Dt.tup n h (P3.ints st H ns)
mutual
theorem Dt.reads {P:j9}{w:t9}{st:Addr}{H:Hp}{h:Heap} (ok:bh P w H h):∀{d:A2}{v:V}{u:d6},d.canLay0=true->Dt st H d v->G8 v u->∃as,Reads h u d as
 | .none,_,u,_,q,r=>by unfold Dt at q;subst q;cases r;exact ⟨[],.none⟩
 | .bool b,_,u,_,q,r=>by unfold Dt at q;subst q;cases r;exact ⟨[],.bool b⟩
 | .int i,_,u,_,q,r=>by unfold Dt at q;subst q;obtain ⟨t,rfl⟩:=r;exact ⟨[],.int i t⟩
 | .str x,_,u,_,q,r=>by unfold Dt at q;subst q;obtain ⟨t,rfl⟩:=r;exact ⟨[],.str x t⟩
 | .tuple ds,_,u,cl,q,r=>by
  unfold U7 at cl
  unfold Dt at q
  obtain ⟨a,xs,e,n,hq,rs⟩:=q
  subst e
  cases r
  obtain ⟨_,its,rv,o,ho,hc,m,hd⟩:=ok a _ hq
  obtain ⟨as,ra⟩:=P3.reads ok cl rs rv
  exact ⟨as,.tuple ho hc hd (by simpa using ra)⟩
 | .list ds,_,u,cl,q,r=>by
  unfold U7 at cl
  unfold Dt at q
  obtain ⟨a,xs,e,n,hq,rs⟩:=q
  subst e
  cases r
  obtain ⟨_,its,m,rv,ho⟩:=ok a _ hq
  obtain ⟨as,ra⟩:=P3.reads ok cl rs rv
  exact ⟨a::as,.list ho rfl rfl (by simpa using ra)⟩
 | .dict kvs,_,u,cl,q,r=>by unfold U7 at cl;cases cl
theorem P3.reads {P:j9}{w:t9}{st:Addr}{H:Hp}{h:Heap} (ok:bh P w H h):∀{ds:List A2}{xs:List V}{us:List d6},bj ds=true->P3 st H ds xs->F2 xs us->∃as,ReadsAll h us ds as
 | [],_,us,_,q,r=>by unfold P3 at q;subst q;cases r;exact ⟨[],.nil⟩
 | d::ds,_,us,cl,q,r=>by
  unfold bj at cl
  rw[A6] at cl
  obtain ⟨x,rr,e,h1,h2⟩:=q.uncons
  subst e
  cases r with
  | cons r1 r2 =>
   obtain ⟨as,ra⟩:=Dt.reads ok cl.1 h1 r1
   obtain ⟨bs,rb⟩:=P3.reads ok cl.2 h2 r2
   exact ⟨as++bs,.cons ra rb⟩
end
theorem fu {d:A2} (h:T5 d=true):d.canLay0=true:=by
 unfold T5 at h
 rw[A6] at h
 exact h.1
section
variable {X:Cx}
noncomputable def rEqD:R2:=fun x y H Q=>∃st d e,Dt st H d x/\Dt st H e y/\T5 d=true/\T5 e=true/\Q (.bl (gH d e)) H
noncomputable def GM:R2:=fun x y H Q=>∃st d e,Dt st H d x/\Dt st H e y/\T5 d=true/\T5 e=true/\Q (.bl (!PyData.eqv d e)) H
theorem GX (hu:X.A.units+64<jk):gK X (P9 .Eq) rEqD:=by
 intro pins s σ H x y v u Q I rx ry h
 obtain ⟨st,d,e,h1,h2,s1,s2,q⟩:=h
 obtain ⟨as,ra⟩:=h1.reads I.hok (fu s1) rx
 obtain ⟨bs,rb⟩:=h2.reads I.hok (fu s2) ry
 exact eq_dataH ra rb s1 s2 hu (K7 I q rfl)
theorem BC (hu:X.A.units+64<jk):gK X (P9 .NotEq) GM:=by
 intro pins s σ H x y v u Q I rx ry h
 obtain ⟨st,d,e,h1,h2,s1,s2,q⟩:=h
 obtain ⟨as,ra⟩:=h1.reads I.hok (fu s1) rx
 obtain ⟨bs,rb⟩:=h2.reads I.hok (fu s2) ry
 exact ne_dataH ra rb s1 s2 hu (K7 I q rfl)
noncomputable def Gg:A2->String
 | .none=>"NoneType"
 | .bool _=>"bool"
 | .int _=>"int"
 | .str _=>"str"
 | .list _=>"list"
 | .tuple _=>"tuple"
 | .dict _=>"dict"
theorem Dt.ty {K:m9}{st:Addr}{H:Hp}{d:A2}{v:V} (h:Dt st H d v):lE K H v (.type (Gg d)):=by
 cases d with
 | none=>unfold Dt at h;subst h;exact .non
 | bool b=>unfold Dt at h;subst h;exact .bl b
 | int i=>unfold Dt at h;subst h;exact .int i
 | str x=>unfold Dt at h;subst h;exact .str x
 | list ds=>unfold Dt at h;obtain ⟨a,xs,e,_,q,_⟩:=h;subst e;exact .lst q
 | tuple ds=>unfold Dt at h;obtain ⟨a,xs,e,_,q,_⟩:=h;subst e;exact .tup q
 | dict kvs=>unfold Dt at h;obtain ⟨a,ks,e,_,q⟩:=h;subst e;exact .dK q
noncomputable def yh:A2->Bool
 | .bool _=>true
 | _=>false
noncomputable def HU:A2->Bool
 | .bool _=>true
 | .int _=>true
 | _=>false
noncomputable def HS:A2->Bool
 | .tuple _=>true
 | _=>false
noncomputable def EJ:A2->Bool
 | .list _=>true
 | _=>false
theorem kg (K:m9) (d:A2):aZ K (.type (Gg d)) (.type "bool")=some (yh d):=by cases d <;> kernel_rfl
theorem ye (K:m9) (d:A2):aZ K (.type (Gg d)) (.type "int")=some (HU d):=by cases d <;> kernel_rfl
theorem dW (K:m9) (d:A2):aZ K (.type (Gg d)) (.type "tuple")=some (HS d):=by cases d <;> kernel_rfl
theorem uA (K:m9) (d:A2):aZ K (.type (Gg d)) (.type "list")=some (EJ d):=by cases d <;> kernel_rfl
theorem Q4 {T:String}{f:A2->Bool} (hk:∀K d,aZ K (.type (Gg d)) (.type T)=some (f d)):
  bp X (.builtin "isinstance") (fun xs H Q=>∃x st d,xs=[x,.ty T]/\Dt st H d x/\Q (.bl (f d)) H):=by
 intro pins s σ H xs us Q I r h
 obtain ⟨x,st,d,rfl,hd,q⟩:=h
 cases r with
 | cons r1 rr =>
  cases rr with
  | cons r2 rr =>
   cases rr
   cases r2
   exact zD I r1 (hd.ty (K:=X.K)) (hk X.K d) fun tk=>⟨.bl (f d),H,I.tok tk,rfl,q⟩
theorem bL:gK X (R1 .Mult) (rI (fun i j=>A9 i<=2 ^ 20/\A9 j<=2 ^ 20) fun i j=>.int (i*j)):=IH fun _ _ _ _ _ _ _ hc q=>mul_int q (.of_bits hc.1 hc.2)
noncomputable def JC (K:m9):R2:=fun x y H Q=>∃a b xs ys,x=.ref a/\y=.ref b/\aQ K H a xs/\aQ K H b ys/\xs.length+ys.length<=i7 /\
 (xs=[]->Q (.ref b) H)/\(xs≠[]->ys=[]->Q (.ref a) H)/\(xs≠[]->ys≠[]->∀p,H p=none->Q (.ref p) (t6 H p (.tup (xs++ys))))
theorem Et:gK X (R1 .Add) (JC X.K):=by
 intro pins s σ H x y v u Q I rx ry h
 obtain ⟨a,b,xs,ys,rfl,rfl,ha,hb,hz,q0,q1,q2⟩:=h
 by_cases hx:xs=[]
 ·subst hx
  cases rx
  cases ry
  obtain ⟨its,r1,p1,_⟩:=I.tuple ha
  obtain ⟨its2,r2,p2,_⟩:=I.tuple hb
  cases r1
  obtain ⟨⟨cls,dd,data,sl⟩,ho,hc,n,hd⟩:=id p1
  obtain ⟨⟨cls2,dd2,data2,sl2⟩,ho2,hc2,n2,hd2⟩:=id p2
  simp only at hc hd hc2 hd2
  subst hc hd hc2 hd2
  exact DK ⟨_,ho,rfl⟩ ⟨_,ho2,rfl⟩ tw Ah gx fh (eJ _ _)
   (tuple_addW0 a b _ _ n n2 dd dd2 sl sl2 (by rfl)) ⟨ho,ho2,⟨.ref b,H,I,rfl,q0 rfl⟩⟩
 ·exact Es pins s σ H _ _ v u Q I rx ry ⟨a,b,xs,ys,rfl,rfl,ha,hb,hx,hz,q1 hx,q2 hx⟩
end
section
variable {prog:j9}{w:t9}{A:v7}{E:d6->d7->Prop}{s:d7}
theorem pJ {t sl:Addr}{items:Array d6}{vl vu:d6}{lo hi:Option Int}{Q:d6->d7->Prop} (ht:Ds s.heap t items) (hs:s.heap.IsSliceOf sl vl vu .none) (pl:mi vl lo) (pu:mi vu hi)
  (hw:HT.bK items.size 0 lo=0/\HT.bK items.size items.size hi=items.size) (h:Q (.ref t) s):r0 (y6 prog w) A (dN (.ref t) (.ref sl)) Q E s:=by
 obtain ⟨os,hos,hcs,hds⟩:=id hs
 have hTs:s.TypeIs (.ref sl) "slice":=⟨os,hos,hcs⟩
 unfold dN
 try with_reducible refine O5 ?_
 first|refine b8 (i8 ?_)|skip
 refine b8 (qN ht.typeIs (by decide) ?_)
 refine b8 (G2 (name:=U3 "__getitem__") ht.typeIs I0
  (M7 I0 ht.typeIs mP ?_ (oZ _ _)))
 show r0 _ _ (cx (.ref t) >>= _) _ _ s
 refine b8 (Af ht (b8 (qM hTs ?_)))
 rw[if_pos (by decide)]
 refine b8 (HT.eU hs pl pu ?_)
 show r0 _ _ (if (((HT.bK items.size 0 lo:Nat):Int) == 0&&(1:Int) == 1&&(HT.bK items.size items.size hi - HT.bK items.size 0 lo) == items.size)=true then _ else _) _ _ s
 rw[if_pos (by rw[hw.1,hw.2];simp)]
 refine b8 (m:=kR (.ref t)) ?_
 unfold kR
 refine b8 (qM ht.typeIs (i8 ?_))
 rw[if_pos (by decide)]
 refine b8 (gr ?_)
 first
  | exact i8 ⟨_,rfl,i8 h⟩
  | exact b8 (i8 (i8 ⟨_,rfl,i8 h⟩))
end
section
variable {X:Cx}
noncomputable def rSlA (K:m9):V->Option Int->Option Int->Hp->VK->Prop:=fun x lo hi H Q=>∃a xs,x=.ref a/\aQ K H a xs /\
 ((HT.bK xs.length 0 lo=0/\HT.bK xs.length xs.length hi=xs.length)->Q (.ref a) H) /\
 (¬ (HT.bK xs.length 0 lo=0/\HT.bK xs.length xs.length hi=xs.length)->∀p,H p=none->Q (.ref p) (t6 H p (.tup (gC xs lo hi))))
theorem Gw:KL X (rSlA X.K):=by
 intro pins s σ H x v vl vu lo hi sl Q I rx hs pl pu h
 obtain ⟨a,xs,rfl,hx,q1,q2⟩:=h
 by_cases hw:HT.bK xs.length 0 lo=0/\HT.bK xs.length xs.length hi=xs.length
 ·cases rx
  obtain ⟨its,r,ht,hz⟩:=I.tuple hx
  have hlen:its.toArray.size=xs.length:=by rw[n6];exact r.length.symm
  exact ⟨"tuple",_,PyProof.Rows.slot_tuple_getitem.lookup,ht.typeIs,pJ ht hs pl pu (by rw[hlen];exact hw) ⟨.ref a,H,I,rfl,q1 hw⟩⟩
 ·exact Gv pins s σ H _ v vl vu lo hi sl Q I rx hs pl pu ⟨a,xs,rfl,hx,hw,q2 hw⟩
theorem ql:IQ (.type "tuple") (dunderR "mul")=pure (some (.builtin "tuple.__rmul__")):=by rw[typeLookup_type,builtinLookup_eq_fast];kernel_rfl
theorem Z2:fillsNumberSlot (.type "tuple") "mul"=pure false :=
 PySem.fillsNumberSlot_seq (id:="tuple.__mul__") (r:=some (.builtin "tuple.__rmul__")) F.slot_tuple_mul.lookup (by decide +kernel) ql (by decide +kernel)
theorem cM:seqRepeat? (.type "tuple")=pure (some (.builtin "tuple.__mul__")):=by
 unfold seqRepeat?
 rw[DQ (T:="tuple") (name:="__mul__") (id:="tuple.__mul__") F.slot_tuple_mul.lookup (by decide +kernel),DQ (T:="tuple") (name:="__rmul__") (id:="tuple.__rmul__") ql (by decide +kernel)]
 rfl
theorem fC (a:Int) (t:Tok) (l:Addr) (items:Array d6) (n:Nat) (dd:Option Addr) (sl:Array (Option d6)):
  Dl (bI.«int.__rmul__» ⟨[.int a t,.ref l],[]⟩) (fun _ R s=>s.heap.get? l=some { cls:=.type "tuple",dict:=dd,data:=.seq items n,slots:=sl }/\R (.ok (.ret Value.notImplemented)) s):=
 .of_wp fun prog w A R s h=>by obtain ⟨hp,g,d,tk,os⟩:=s;obtain ⟨hl,h⟩:=h;wp_walk;exact ⟨_,rfl,h⟩
theorem wM (l:Addr) (items:Array d6) (n:Nat) (dd:Option Addr) (sl:Array (Option d6)) (t:Tok):
  Dl (bI.«tuple.__mul__» ⟨[.ref l,.int 1 t],[]⟩) (fun _ R s=>s.heap.get? l=some { cls:=.type "tuple",dict:=dd,data:=.seq items n,slots:=sl }/\R (.ok (.ret (.ref l))) s):=
 .of_wp fun prog w A R s h=>by
  obtain ⟨hp,g,d,tk,os⟩:=s;obtain ⟨hl,h⟩:=h
  wp_walk
  exact ⟨_,rfl,h⟩
theorem wI (l:Addr) (v:d6) (n:Nat) (dd:Option Addr) (sl:Array (Option d6)) (k:Int) (t:Tok) (hk:k=2 ∨ k=3 ∨ k=4):
  Dl (bI.«tuple.__mul__» ⟨[.ref l,.int k t],[]⟩) (fun _ R s=>s.heap.get? l=some { cls:=.type "tuple",dict:=dd,data:=.seq #[v] n,slots:=sl } /\
   R (.ok (.ret (.ref s.heap.objs.size))) { s with heap:=s.heap.push { cls:=.type "tuple",data:=.seq (m6 k.toNat v).toArray } }):=
 .of_wp fun prog w A R s h=>by
  obtain ⟨hp,g,d,tk,os⟩:=s;obtain ⟨hl,h⟩:=h
  rcases hk with rfl|rfl|rfl
  ·wp_walk
   exact ⟨_,rfl,h⟩
  ·wp_walk
   exact ⟨_,rfl,h⟩
  ·wp_walk
   exact ⟨_,rfl,h⟩
noncomputable def Jy (K:m9):R2:=fun x y H Q=>∃a v k,x=.ref a/\y=.int k/\aQ K H a [v]/\1<=k/\k<=4/\(k=1->Q (.ref a) H)/\(k≠1->∀p,H p=none->Q (.ref p) (t6 H p (.tup (m6 k.toNat v))))
theorem mY {v:V}{u:d6} (r:G8 v u):∀n:Nat,F2 (m6 n v) (m6 n u)
 | 0=>.nil
 | n+1=>.cons r (mY r n)
theorem xR:gK X (R1 .Mult) (Jy X.K):=by
 intro pins s σ H x y w' u Q I rx ry h
 obtain ⟨a,v,k,rfl,rfl,ha,h1,h4,q1,q2⟩:=h
 cases rx
 obtain ⟨t,rfl⟩:=ry
 obtain ⟨its,r,p1,_⟩:=I.tuple ha
 cases r with
 | cons r1 rr =>
  cases rr
  obtain ⟨⟨cls,dd,data,sl⟩,ho,hc,n,hd⟩:=id p1
  simp only at hc hd
  subst hc hd
  refine aU (T:="tuple") (U:="int") (by decide) ⟨_,ho,rfl⟩ (fun s'=>bP s' k t) Z2 jF U5 cM F.slot_int_index.lookup
   (W2 U5 (bP s k t) iY (gJ _ _) (fC k t a _ n dd sl) ⟨ho,rfl,⟨_,ho,rfl⟩,?_⟩)
  by_cases hk:k=1
  ·subst hk
   exact W2 dc ⟨_,ho,rfl⟩ cw (bz _ _) (wM a _ n dd sl t) ⟨ho,⟨.ref a,H,I,rfl,q1 rfl⟩⟩
  ·refine W2 dc ⟨_,ho,rfl⟩ cw (bz _ _) (wI a _ n dd sl k t (by lia)) ⟨ho,?_⟩
   refine ⟨.ref s.heap.objs.size,_,I.laid (t':=s.toks) (o:=.tup (m6 k.toNat v)) (fun b ob q=>f9 _ q) (i9 _) ?_,rfl,q2 hk _ (I.hok.fresh (i9 _))⟩
   exact ⟨⟨by rw[J7];exact m8 (show k.toNat<=1000 by lia) (dX (qe (i9 _))),⟨_,q9 _ rfl,rfl⟩⟩,_,mY r1 _,cu _ _⟩
end
structure S2 (P:j9) (w:t9) (K:m9) (mg:Str->Option d6) (base:Heap) (k:Nat) (x:Str) (ps:List Str) (sp:Sp):Prop where
 ex:∃f fd,mg x=some (.ref f)/\ba K (.ref f)=true/\jh K fd ps []/\M0 P w K mg base cH k f fd ps sp
variable {P:j9}{w:t9}{K:m9}{mg:Str->Option d6}{base:Heap}{ps:List Str}{sp:Sp}
theorem S2.up {j:Nat}(C:S2 P w K mg base j x ps sp) (h:j<=k):S2 P w K mg base k x ps sp :=
 let ⟨f,fd,a,b,c,d⟩:=C.ex;⟨f,fd,a,b,c,d.mono h⟩
noncomputable def Jl (sp:Sp) (t:TA):TE:=fun σ H Q=>t σ H fun vs H1=>sp vs H1 Q E0
section
variable {X:Cx}{k:Nat}{x:Str}{ps:List Str}{sp:Sp}{p pos:Pos}{e:Expr}{es:List Expr}{t:TA}
theorem B8 (C:S2 X.prog X.w X.K X.mg X.base k x ps sp) (hr:bg k X.A) (hg:Gl X x) (ha:PA X (e::es) t)
  (hdb:(x == ("__debug__":Str))=false:=by decide) (he:w6 (e::es) X.env=(false,eval e X.env)::w6 es X.env:=by rfl) (hpl:(S9 pos (w6 es X.env)).any (·.1)=false:=by rfl):
  PE X (.Call (.Name x p) (e::es) [] pos) (Jl sp t):=by
 obtain ⟨f,fd,hm,hk,hb,F⟩:=C.ex
 have h:=xP (x:=x) (p:=p) (pos:=pos) F hr hg hm hk hb .nil JF ha hdb he hpl
 have e:AG sp [] E0 t=Jl sp t:=by
  funext σ H Q
  show t σ H (fun vs H1=>sp (vs++[]) H1 Q E0)=t σ H (fun vs H1=>sp vs H1 Q E0)
  congr 1
  funext vs H1
  rw[T8]
 rw[<- e];exact h
end
section
variable {K:m9}{σ0:St}{te:TE}{H:Hp}{F:List V->Hp->Prop}
theorem O4 {lo:Int}{n:Nat} (hn:n<=i7) (Pv:Nat->List V->Hp->Prop) (h0:Pv 0 [] H) (hl:∀i ys H,Pv i ys H->ys.length=i) (hσ:σ0[0]?=some none)
  (hs:∀i ys H,i<n->Pv i ys H->te (σ0.set 0 (some (.int (lo+i)))) H fun y H'=>Pv (i+1) (ys++[y]) H') (hd:∀ys H,Pv n ys H->F ys H):Fe (Iq lo n) σ0 (N7 0) Q2 te H F:=by
 refine ⟨fun i m ys H=>m=n - i/\i<=n/\Pv i ys H,⟨n,by simp,u9 _,h0⟩,?_⟩
 rintro i m ys H2 ⟨rfl,hi,p⟩
 refine ⟨by rw[hl i ys H2 p];lia,?_⟩
 by_cases hlt:i<n
 ·refine .inr ⟨hlt,fun y H'=>Pv (i+1) (ys++[y]) H',fun _=>False,fun y H' q=>⟨n - (i+1),by lia,rfl,hlt,q⟩,fun _ q=>q.elim,fun x H3 y=>?_⟩
  obtain ⟨rfl,rfl⟩:=y
  exact ⟨Wk.set (.inl hσ),hs i ys _ hlt p⟩
 ·have e:i=n:=by lia
  subst e
  exact .inl ⟨i9 _,hd ys H2 p⟩
theorem kE {a:Addr}{xs:List V} (hn:xs.length<=i7) (Pv:Nat->List V->Hp->Prop) (h0:Pv 0 [] H) (hl:∀i ys H,Pv i ys H->ys.length=i) (hq:∀i ys H,i<=xs.length->Pv i ys H->aQ K H a xs) (hσ:σ0[0]?=some none)
  (hs:∀i ys H x,xs[i]?=some x->Pv i ys H->te (σ0.set 0 (some x)) H fun y H'=>Pv (i+1) (ys++[y]) H') (hd:∀ys H,Pv xs.length ys H->F ys H):Fe (IL K a) σ0 (N7 0) Q2 te H F:=by
 refine ⟨fun i m ys H=>m=xs.length - i/\i<=xs.length/\Pv i ys H,⟨xs.length,by simp,u9 _,h0⟩,?_⟩
 rintro i m ys H2 ⟨rfl,hi,p⟩
 have q:=hq i ys H2 hi p
 refine ⟨by rw[hl i ys H2 p];lia,?_⟩
 by_cases hlt:i<xs.length
 ·refine .inr ⟨⟨xs,xs[i],q,by simp[hlt]⟩,fun y H'=>Pv (i+1) (ys++[y]) H',fun _=>False,fun y H' q=>⟨xs.length - (i+1),by lia,rfl,hlt,q⟩,fun _ q=>q.elim,fun x H3 y=>?_⟩
  obtain ⟨rfl,y⟩:=y
  exact ⟨Wk.set (.inl hσ),hs i ys _ x (y xs q) p⟩
 ·have e:i=xs.length:=by lia
  subst e
  exact .inl ⟨⟨xs,q,i9 _⟩,hd ys H2 p⟩
theorem sS {a b:Addr}{xs ys:List V} (hn:xs.length<=i7) (hxy:xs.length=ys.length) (Pv:Nat->List V->Hp->Prop) (h0:Pv 0 [] H) (hl:∀i zs H,Pv i zs H->zs.length=i)
  (hq:∀i zs H,i<=xs.length->Pv i zs H->aQ K H a xs/\aQ K H b ys) (hσ:σ0[0]?=some none/\σ0[1]?=some none)
  (hs:∀i zs H x y p,xs[i]?=some x->ys[i]?=some y->H p=none->Pv i zs H->te ((σ0.set 0 (some x)).set 1 (some y)) (t6 H p (.tup [x,y])) fun z H'=>Pv (i+1) (zs++[z]) H') (hd:∀zs H,Pv xs.length zs H->F zs H):
  Fe (Itz K a b) σ0 (Cq K 2 (oi (N7 0) (oi (N7 1) EN))) Q2 te H F:=by
 refine ⟨fun i m zs H=>m=xs.length - i/\i<=xs.length/\Pv i zs H,⟨xs.length,by simp,u9 _,h0⟩,?_⟩
 rintro i m zs H2 ⟨rfl,hi,p⟩
 obtain ⟨q1,q2⟩:=hq i zs H2 hi p
 refine ⟨by rw[hl i zs H2 p];lia,?_⟩
 by_cases hlt:i<xs.length
 ·refine .inr ⟨⟨xs,ys,xs[i],ys[i]'(by lia),q1,q2,by simp[hlt],by rw[d9 (by lia)]⟩,fun y H'=>Pv (i+1) (zs++[y]) H',fun _=>False,fun y H' q=>⟨xs.length - (i+1),by lia,rfl,hlt,q⟩,fun _ q=>q.elim,fun v H3 yld=>?_⟩
  obtain ⟨r,x,y,hr,rfl,rfl,hx,hy⟩:=yld
  refine ⟨r,[x,y],rfl,.of f6,rfl,x,[y],rfl,y,[],rfl,rfl,?_,?_⟩
  ·refine ⟨by simp,fun j u e=>?_⟩
   by_cases h1:j=1
   ·subst h1;rw[hσ.2] at e;cases e
   ·rw[K4 (M3 h1)]
    by_cases h2:j=0
    ·subst h2;rw[hσ.1] at e;cases e
    ·rw[K4 (M3 h2)];exact e
  ·exact hs i zs _ x y r (hx xs q1) (hy ys q2) hr p
 ·have e:i=xs.length:=by lia
  subst e
  exact .inl ⟨⟨xs,q1,i9 _⟩,hd zs H2 p⟩
end
section
variable {X:Cx}
theorem S8 {x:Str}{T:String}{pos:Pos} (hg:Gl X x) (hm:X.mg x=none) (hv:V4 x=some (.type T)) (hn:x≠"__name__":=by decide) (hd:(x == ("__debug__":Str))=false:=by decide):PE X (.Name x pos) (tC (.ty T)):=Eo hg hm hv (v:=.ty T) rfl hn hd
theorem aE {scope:N3}{N:List Str}{s:d7}{H:Hp}{ex:List Addr}{i:Nat}{x:Str}{pos:Pos} (hN:N.Nodup) (hi:N[i]?=some x) (hx:Kh (X.comp scope N s H ex).env.scope x)
  (hf:(X.comp scope N s H ex).fn x=true ∨ (X.comp scope N s H ex).env.scope.names.lookup x=some .local):PG (X.comp scope N s H ex) (.Name x pos) (N7 i):=U0 hN hi hx hf
end
theorem sz (h:n<=1000):n<=i7:=dX (qe h)
section
variable {X:Cx}{K:m9}
theorem lenK (h:X.K=K):bp X (.builtin "len") (fun xs H Q=>∃p ys,xs=[.ref p]/\(dC K H p ys ∨ aQ K H p ys)/\Q (.int ys.length) H):=by subst h;exact B7
theorem Jm (h:X.K=K) (hc:X.calm=true):bp X (.builtin "sum") (fun xs H Q=>∃(p:Addr) (ns:List Int),xs=[.ref p]/\(dC K H p (ns.map V.int) ∨ aQ K H p (ns.map V.int))/\Q (.int ns.sum) H):=by subst h;exact aP hc
theorem Gi (h:X.K=K):bp X (.type "tuple") (fun xs H Q=>∃p ys,xs=[.ref p]/\((dC K H p ys/\∀l,H l=none->Q (.ref l) (t6 H l (.tup ys))) ∨ (aQ K H p ys/\Q (.ref p) H))):=by subst h;exact K2
theorem ixK (h:X.K=K):Kk X (GN K):=by subst h;exact N2
theorem ixLK (h:X.K=K):Kk X (Ef K):=by subst h;exact O7
theorem Ej (h:X.K=K) {es:List Expr}{k:Nat}{t:FP}{n:Nat}{pos:Pos} (hc:X.calm=true) (hp:Kd X es t)
  (hn:(dG es X.env).length=n:=by rfl) (hst:(dG es X.env).findIdx? (·.1)=none:=by rfl):PG X (.Tuple es k pos) (Cq K n t):=by subst h;exact rW hc hp hn hst
end
noncomputable def Hd (h:Heap) (a C:Addr):Option Addr->Prop
 | none=>∃oe vs,h.get? a=some oe/\oe.cls=.ref C/\oe.dict=none/\oe.data=.fields vs/\vs[1]?=some .none
 | some T=>∃oe vs oT ts,h.get? a=some oe/\oe.cls=.ref C/\oe.dict=none/\oe.data=.fields vs/\vs[1]?=some (.ref T)/\T≠a/\h.get? T=some oT/\oT.data=.fields ts/\ts[3]?=some .none
variable {h:Heap}{C:Addr}
theorem Hd.at {x:Option Addr} (q:Hd h a C x):∃oe vs,h.get? a=some oe/\oe.cls=.ref C/\oe.dict=none/\oe.data=.fields vs:=by
 cases x with
 | none=>obtain ⟨oe,vs,e1,e2,e3,e4,_⟩:=q;exact ⟨oe,vs,e1,e2,e3,e4⟩
 | some T=>obtain ⟨oe,vs,_,_,e1,e2,e3,e4,_⟩:=q;exact ⟨oe,vs,e1,e2,e3,e4⟩
theorem oo (f:Array d6->Array d6) (o:Obj):(U6 f o).dict=o.dict:=by
 obtain ⟨c,d,dt,sl⟩:=o
 cases dt <;> rfl
variable {ev:Env}{out:List Env}{Q:Unit->d7->Prop}
theorem ym {bs:Heap}{L:Addr}{ob:Obj}{us:Array d6}{hdv:d6}{hn:Bool}
  (fr:A.frames=some (ev::out)) (ff:s.heap.FunFrames bs (ev::out)) (fl:ev.frame=some L) (ga:s.heap.get? a=some ob) (gc:ob.cls=.ref C) (gd:ob.dict=none) (gf:ob.data=.fields us) (sz:1<us.size)
  (k:∀h' T,Hd h' a C (some T)->s.heap.objs.size<=T->(∀b o,b≠a->b ∉ kr (ev::out)->s.heap.get? b=some o->h'.get? b=some o) ->
   (∀b o,b≠a->s.heap.get? b=some o->∃sl,h'.get? b=some { o with slots:=sl })->Q () { s with heap:=h' }):
  r0 M A (do let x <- frameOf ev;let pl <- entryPlaceOf L hn;let b <- tJ hdv x .none (bQ L) .none pl;setField (.ref a) 1 b) (fun _ s'=>r0 M A (tu (.ref a) none) Q E s') E s:=by
 have na:a ∉ (ev::out).filterMap (·.frame):=fun hm=>by
  obtain ⟨_,o,ho,hnf⟩:=ff.mem hm
  rw[ga] at ho
  cases ho
  exact hnf us gf
 refine b8 (wpAny_frameOf_fun fr ff fl fun g1 hs=>?_)
 refine b8 (wpAny_entryPlaceOf fun pl hpl=>?_)
 unfold tJ newFields
 refine b8 (C9 ?_ (hpl.sizeOk5 _ _ _ _ _))
 have ga1:g1.get? a=some ob:=(hs.2.1 a na).trans ga
 generalize hnew:({ cls:=.type "traceback",dict:=none,data:=.fields ([hdv,.ref L,.none,bQ L,.none]++(if pl.isEmpty then m6 6 D9 else pl)).toArray }:Obj)=ot
 have ga2:(g1.push ot).get? a=some ob:=f9 (h:=g1) ot ga1
 have gt2:(g1.push ot).get? g1.objs.size=some ot:=q9 g1 (by rw[<- hnew];rfl)
 have otd:∃ts,ot.data=.fields ts/\3<ts.size:=by
  refine ⟨_,by rw[<- hnew],?_⟩
  simp only[n6,t8,r6,T7]
  lia
 obtain ⟨ts,otd,tsz⟩:=otd
 refine cJ ga2 gf sz ?_
 have HJ:g1.objs.size≠a:=G6 (m7 ga1)
 have d3:=S3 gf (·.setIfInBounds 1 (B1 g1.objs.size))
 have ga3:=Y7 (U6 (·.setIfInBounds 1 (B1 g1.objs.size))) ga2 (cE d3)
 have gt3:((g1.push ot).update a (U6 (·.setIfInBounds 1 (B1 g1.objs.size)))).get? g1.objs.size=some ot :=
  (K8 (g1.push ot) (U6 (·.setIfInBounds 1 (B1 g1.objs.size))) (M3 HJ)).trans gt2
 unfold tu
 refine b8 (D3 ga3 d3 (x:=.ref g1.objs.size) (by simp[sz]) ?_)
 rw[if_pos (show (B1 g1.objs.size != D9)=true from by simp)]
 refine cJ gt3 otd tsz ?_
 have kp:∀b o,b≠a->g1.get? b=some o ->
   (((g1.push ot).update a (U6 (·.setIfInBounds 1 (B1 g1.objs.size)))).update g1.objs.size (U6 (·.setIfInBounds 3 ((none:Option Addr).elim D9 fun f=>bQ f)))).get? b=some o:=by
  intro b o hb e
  have hbT:g1.objs.size≠b:=G6 (m7 e)
  rw[K8 _ _ hbT,K8 _ _ (M3 hb)]
  exact f9 _ e
 refine k _ g1.objs.size ⟨_,_,_,_,(K8 _ _ HJ).trans ga3,?_,?_,d3,by simp[sz],HJ,Y7 _ gt3 (cE (S3 otd _)),S3 otd _,?_⟩ (by rw[hs.1];exact i9 _) (fun b o hb hf e=>?_) (fun b o hb e=>?_)
 ·rw[Fh]
  exact gc
 ·rw[oo]
  exact gd
 ·rw[je tsz]
  rfl
 ·exact kp b o hb ((hs.2.1 b hf).trans e)
 ·obtain ⟨sl,e1⟩:=hs.2.2 b o e
  exact ⟨sl,kp b _ hb e1⟩
variable {hd:Option Addr}
theorem BO {bs:Heap}{L:Addr}
  (fr:A.frames=some (ev::out)) (ff:s.heap.FunFrames bs (ev::out)) (fl:ev.frame=some L) (x:Hd s.heap a C hd)
  (k:∀h' T,Hd h' a C (some T)->s.heap.objs.size<=T->(∀b o,b≠a->hd≠some b->b ∉ kr (ev::out)->s.heap.get? b=some o->h'.get? b=some o) ->
   (∀b o,b≠a->hd≠some b->s.heap.get? b=some o->∃sl,h'.get? b=some { o with slots:=sl })->Q () { s with heap:=h' }):
  r0 M A (Dd (.ref a) ev) (fun _ s'=>r0 M A (tu (.ref a) none) Q E s') E s:=by
 unfold Dd
 simp only[fl]
 cases hd with
 | none =>
  obtain ⟨oe,vs,e1,e2,e3,e4,e5⟩:=x
  refine b8 (D3 e1 e4 e5 ?_)
  rw[if_neg (by decide)]
  exact ym fr ff fl e1 e2 e3 e4 (Array.getElem?_eq_some_iff.mp e5).1 fun h' T q1 q2 q3 q4=>k h' T q1 q2 (fun b o hb _=>q3 b o hb) (fun b o hb _=>q4 b o hb)
 | some T0 =>
  obtain ⟨oe,vs,oT,ts,e1,e2,e3,e4,e5,ne,t1,t2,t3⟩:=x
  refine b8 (D3 e1 e4 e5 ?_)
  rw[if_pos (show (B1 T0 != D9)=true from by simp)]
  refine b8 (D3 t1 t2 t3 ?_)
  rw[if_neg (show ¬ ((D9 == bQ L)=true) from by simp[bQ])]
  refine b8 (cJ t1 t2 (Array.getElem?_eq_some_iff.mp t3).1 ?_)
  have ot:∀b,b≠T0->(s.heap.update T0 (U6 (·.setIfInBounds 3 D9))).get? b=s.heap.get? b:=fun b hb=>K8 _ _ (M3 hb)
  have nr:∀b o,s.heap.get? b=some o->(∀vs,o.data≠.fields vs)->b≠T0:=fun b o hb hnf q=>by
   rw[q,t1] at hb
   cases hb
   exact hnf ts t2
  refine ym fr (ff.of_keeps fun b o hb hnf=>⟨o,(ot b (nr b o hb hnf)).trans hb,rfl⟩) fl ((ot a (M3 ne)).trans e1) e2 e3 e4 (Array.getElem?_eq_some_iff.mp e5).1 fun h' T q1 q2 q3 q4=>?_
  have q2':s.heap.objs.size<=T:=by
   have z:=Heap.size_after_update s.heap T0 (U6 (·.setIfInBounds 3 D9))
   rw[<- z];exact q2
  exact k h' T q1 q2' (fun b o hb hx hf e=>q3 b o hb hf ((ot b fun z=>hx (by rw[z])).trans e)) (fun b o hb hx e=>q4 b o hb ((ot b fun z=>hx (by rw[z])).trans e))
theorem EG {bs:Heap}{L:Addr}
  (fr:A.frames=some (ev::out)) (ff:s.heap.FunFrames bs (ev::out)) (fl:ev.frame=some L) (x:Hd s.heap a C hd)
  (k:∀h' T,Hd h' a C (some T)->s.heap.objs.size<=T->(∀b o,b≠a->hd≠some b->b ∉ kr (ev::out)->s.heap.get? b=some o->h'.get? b=some o) ->
   (∀b o,b≠a->hd≠some b->s.heap.get? b=some o->∃sl,h'.get? b=some { o with slots:=sl })->Q () { s with heap:=h' }):
  r0 M A (DJ ev (.ref a)) Q E s:=by
 unfold DJ
 exact b8 (BO fr ff fl x k)
theorem N9.there (x:N9 P w H h a o):∃u,h.get? a=some u:=by
 cases o with
 | lst xs=>obtain ⟨_,_,_,_,e⟩:=x;exact ⟨_,e⟩
 | tup xs=>obtain ⟨_,_,_,ob,e,_⟩:=x;exact ⟨_,e⟩
 | dK kvs=>obtain ⟨_,_,_,_,ob,_,_,e,_⟩:=x;exact ⟨_,e⟩
 | dT kvs=>obtain ⟨_,_,_,_,ob,_,_,e,_⟩:=x;exact ⟨_,e⟩
 | set S n=>obtain ⟨ob,_,_,_,e,_⟩:=x;exact ⟨_,e⟩
 | ins C dx fs=>obtain ⟨_,_,_,e,_⟩:=x;exact ⟨_,e⟩
 | own y=>exact x
 | xd fs=>obtain ⟨_,⟨_,_,_,e,_⟩,_⟩:=x;exact ⟨_,e⟩
 | rng lo hi=>obtain ⟨_,_,_,e⟩:=x;exact ⟨_,e⟩
 | frz ob u=>obtain ⟨e,_⟩:=x;exact ⟨_,e⟩
 | tbl ps=>exact ⟨_,(show h.get? a=some _ from x)⟩
 | met f y=>exact ⟨_,(show h.get? a=some _ from x)⟩
 | ext φ=>obtain ⟨_,e,_⟩:=x;exact e
theorem bh.none_of (x:bh P w H h) (e:h.get? a=none):H a=none:=by
 cases z:H a with
 | none=>rfl
 | some u =>
  obtain ⟨o,eo⟩:=(x a u z).there
  rw[e] at eo
  cases eo
structure DA (P:j9) (w:t9) (fs:List Addr) (H:Hp) (s:d7) (a C:Addr) (H':Hp) (s':d7):Prop where
 os:s'.os=s.os
 bare:iA s'.gens
 un:Un fs [] H H' s.heap s'.heap
 hok:bh P w H' s'.heap
 exc:∃T,Hd s'.heap a C (some T)/\s.heap.get? a=none/\s.heap.get? T=none/\H' a=none/\H' T=none
noncomputable def jG (P:j9) (w:t9):yI:=fun outer H s E e s'=>∃a C H',e=.ref a/\DA P w (kr outer) H s a C H' s'/\E (.ref C) none H'
variable {h':Heap}
theorem Gd {fs:List Addr}(ha:H a=none) (ht:∀T,hd=some T->H T=none) (hf:∀b∈fs,H b=none)
  (k1:∀b o,b≠a->hd≠some b->b ∉ fs->h.get? b=some o->h'.get? b=some o) (ok:bh P w H h):bh P w H h':=fun b o e=>by
 have nt:∀c u,H c=some u->c≠a/\hd≠some c/\c ∉ fs:=fun c u q=>by
  refine ⟨fun z=>?_,fun z=>?_,fun z=>?_⟩
  ·rw[z,ha] at q;cases q
  ·rw[ht c z] at q;cases q
  ·rw[hf c z] at q;cases q
 refine (ok b o e).stay (fun c u hc q=>?_) (fun _ q=>q) fun _ _ q=>q
 rcases hc with z|z
 ·subst z
  obtain ⟨n1,n2,n3⟩:=nt _ _ e
  exact k1 _ u n1 n2 n3 q
 ·obtain ⟨n1,n2,n3⟩:=nt _ _ z
  exact k1 _ u n1 n2 n3 q
variable {pins:List (Addr × Obj)}{σ:St}
theorem sD (I:C6 X pins σ H s) (hs:X.stack=X.env::X.outer) (hf:X.env.frame=some X.env.locals) (hex:X.ex=[])
  (x:Hd s.heap a C hd) (na:X.s₀.heap.get? a=none) (nT:∀T,hd=some T->X.s₀.heap.get? T=none) (ha:H a=none) (ht:∀T,hd=some T->H T=none)
  (q:∀s',DA X.prog X.w X.fs X.H₀ X.s₀ a C H s'->Q () s'):r0 M X.A (DJ X.env (.ref a)) Q E s:=by
 have fr:X.A.frames=some (X.env::X.outer):=by rw[I.ok.frames,hs]
 have ff:s.heap.FunFrames X.base (X.env::X.outer):=by rw[<- hs];exact I.stack
 have hfs:kr (X.env::X.outer)=X.env.locals::X.fs:=by
  unfold kr
  rw[dI,hf]
  rfl
 refine EG fr ff hf x fun h' T k0 k00 k1 k2=>q _ ?_
 have exN:∀b,b ∉ X.ex:=fun b z=>by rw[hex] at z;cases z
 have neA:∀b o,X.s₀.heap.get? b=some o->b≠a/\hd≠some b/\b≠X.env.locals:=fun b o e=>by
  refine ⟨fun z=>?_,fun z=>?_,w9 (B4 (m7 e) I.ok.above)⟩
  ·rw[z,na] at e;cases e
  ·rw[nT b z] at e;cases e
 refine ⟨I.os,I.bare,⟨fun b o e n hb _=>?_,fun b o e n hb _=>?_,fun b o e n _=>I.base.free b o e n (exN b),fun b o e _=>?_,I.base.tups,I.base.frzs,I.base.tbls⟩,Gd (fs:=kr (X.env::X.outer)) ha ht (fun b hb=>I.stkFree b (by rw[hs];exact hb)) k1 I.hok,T,k0,na,?_,ha,I.hok.fresh k00⟩
 ·obtain ⟨n1,n2,n3⟩:=neA b o e
  exact k1 b o n1 n2 (by rw[hfs];intro z;rcases List.mem_cons.mp z with z|z;exact n3 z;exact hb z) (I.base.keep b o e n hb (exN b))
 ·obtain ⟨n1,n2,n3⟩:=neA b o e
  obtain ⟨sl,e1⟩:=I.base.slot b o e n hb (exN b)
  obtain ⟨sl',e2⟩:=k2 b _ n1 n2 e1
  exact ⟨sl',e2⟩
 ·obtain ⟨n1,n2,n3⟩:=neA b o e
  obtain ⟨o',e1⟩:=I.base.there b o e (exN b)
  obtain ⟨sl',e2⟩:=k2 b _ n1 n2 e1
  exact ⟨_,e2⟩
 ·exact jD (m8 I.sz k00)
variable {b:Addr}
theorem cV {fs:List Addr}(u:Un fs [] H H' h h') (e:h'.get? b=none):h.get? b=none:=by
 cases q:h.get? b with
 | none=>rfl
 | some o =>
  obtain ⟨o',e'⟩:=u.there b o q (by simp)
  rw[e'] at e
  cases e
section
variable {P:j9}{w:t9}{K:m9}{mg:Str->Option d6}{base:Heap}{N:List Str}{qual:Str}{scope:N3}{f:Addr}{cd:d6}{A:v7}{outer:List Env}{s₀:d7}{H₀:Hp}{E:XK}
theorem iK:jB (jG P w) (eX (jG P w) P w K mg base N qual scope f cd A outer s₀ H₀ E) E:=by
 intro pins σ H s e s' I h
 obtain ⟨a,C,H',rfl,F,hE⟩:=h
 obtain ⟨T,x,n1,n2,n3,n4⟩:=F.exc
 have I':=I.call' (ch:=[]) F.os F.un F.hok F.bare (fun b z=>absurd z (by simp))
 exact sD I' rfl rfl rfl x (cV I.base n1) (fun T' z=>by cases z;exact cV I.base n2) n3 (fun T' z=>by cases z;exact n4) fun s'' F'=>⟨a,C,H',rfl,F',hE⟩
noncomputable def vE:List d6:=[.type "ValueError",.type "Exception",.type "BaseException",.type "object"]
noncomputable def XC (K:m9) (C:Addr):Prop:=Iw K C vE "ValueError.__new__"=true
theorem EO {K:m9}{h:Heap}{C:Addr} (X:K.In h) (q:XC K C):
  ∃bm N nm q bs hdct sn sub ab col dd k0 k1 k2 k3 k5 mN,h.get? C=some (excClassObj nm q C N bs bm hdct sn sub ab col dd k0 k1 k2 k3 k5 "ValueError.__new__")/\h.Ns N mN/\mN "__init__"=none/\OwnTail h vE bm:=by
 unfold XC Iw at q
 split at q
 case h_2=>cases q
 case h_1 dd cd sl ho =>
  split at q
  case h_2=>cases q
  case h_1 C' bm k0 k1 k2 k3 n k5 hm hs =>
   simp only[A6,beq_iff_eq,Bool.not_eq_true'] at q
   obtain ⟨⟨⟨⟨⟨z1,z2⟩,hdel⟩,ht⟩,hok⟩,hni⟩:=q
   subst z1
   subst z2
   obtain ⟨nm,bs,mro,ns,qn,hd,sn,sub,ab,col,del⟩:=cd
   dsimp only at hm hdel hok hni
   subst hm hdel
   have hsl:sl=#[k0,k1,k2,k3,some (.builtin "ValueError.__new__"),k5]:=by
    obtain ⟨l⟩:=sl
    simp only at hs
    rw[hs]
   subst hsl
   exact ⟨bm,ns,nm,qn,bs,hd,sn,sub,ab,col,dd,k0,k1,k2,k3,k5,_,X _ _ ho,.of_isNs (W.isNs_of_in X hok),W.nsMap_none_of_in X hok hni,W.tail_of_in X ht⟩
noncomputable def Gm (C:Addr) (E:XK) (t:TA):TS:=fun _ σ H=>t σ H fun _ H1=>E (.ref C) none H1
theorem Bo {x:Str}{C:Addr}{e:Expr}{es:List Expr}{t:TA}{np cpos pos:Pos} (hg:Gl (eX (jG P w) P w K mg base N qual scope f cd A outer s₀ H₀ E) x) (hm:mg x=some (.ref C)) (hc:XC K C)
  (ha:PA (eX (jG P w) P w K mg base N qual scope f cd A outer s₀ H₀ E) (e::es) t) (hl:(e::es).length<=1:=by decide)
  (hdb:(x == ("__debug__":Str))=false:=by decide)
  (he:w6 (e::es) (W1 qual scope s₀.heap.objs.size f cd)=(false,eval e (W1 qual scope s₀.heap.objs.size f cd))::w6 es (W1 qual scope s₀.heap.objs.size f cd):=by rfl)
  (hpl:(S9 cpos (w6 es (W1 qual scope s₀.heap.objs.size f cd))).any (·.1)=false:=by rfl)
  (hvl:∀σ H Q,t σ H Q->t σ H fun vs H1=>vs.length<=i7/\Q vs H1):
  PS (eX (jG P w) P w K mg base N qual scope f cd A outer s₀ H₀ E) (.Raise (some (.Call (.Name x np) (e::es) [] cpos)) none pos) (Gm C E t):=by
 intro pins s σ H D I h
 obtain ⟨bm,NN,nm,q,bs,hdct,sn,sub,ab,col,dd,k0,k1,k2,k3,k5,mN,hC,hN,hni,T⟩:=EO I.ok.mod.kin hc
 have FB:=PySem.F.excBase_ValueError
 refine wpAny_Raise_call_subT (C:=C) (nm:=nm) (q:=q) (N:=NN) (bs:=bs) (bm:=bm) (hdct:=hdct) (sn:=sn) (sub:=sub) (ab:=ab) (col:=col) (dd:=dd) (k0:=k0) (k1:=k1) (k2:=k2) (k3:=k3) (k5:=k5)
  FB (mN:=mN) (T.hasType FB.hasBase) (I.ok.hd rfl) ?_ hni (kc I hg hm ⟨rfl,?_⟩ hdb)
 ·show (S9 cpos (w6 (e::es) (W1 qual scope s₀.heap.objs.size f cd))).any (·.1)=false
  rw[he]
  show (false || (S9 cpos (w6 es (W1 qual scope s₀.heap.objs.size f cd))).any (·.1))=false
  rw[hpl]
  rfl
 ·have hq:=ha cpos pins s σ H _ I (hvl _ _ _ h)
  show r0 _ _ (evalArgs (.ref C) true (S9 cpos (w6 (e::es) (W1 qual scope s₀.heap.objs.size f cd))) []) _ _ s
  have hq':r0 (y6 P w) (A.deeper (W1 qual scope s₀.heap.objs.size f cd)) (spliced (S9 cpos (w6 (e::es) (W1 qual scope s₀.heap.objs.size f cd)))) _ _ s:=hq
  rw[he] at hq' ⊢
  refine cL (F0 hq' (fun us s2 ⟨vs,H2,I2,r,lv,hE⟩=>⟨rfl,?_,I2.bk _ _ hC,hN.keeps I2.bk,T.keeps I2.bk,fun h' a mk=>?_⟩) fun _ _ y=>y)
  ·show us.length<=i7
   rw[<- r.length]
   exact lv
  ·obtain ⟨t,ea,tn,et⟩:=mk.there
   have ha:H2 a=none:=I2.hok.none_of mk.new
   have I3:C6 (eX (jG P w) P w K mg base N qual scope f cd A outer s₀ H₀ E) pins σ H2 { s2 with heap:=h' }:=I2.kept mk.keeps
   exact sD (hd:=none) I3 rfl rfl rfl ⟨_,_,ea,rfl,rfl,rfl,rfl⟩ (cV I2.base mk.new) (fun T' z=>by cases z) ha (fun T' z=>by cases z) fun s'' F'=>⟨a,C,H2,rfl,F',hE⟩
end
noncomputable abbrev KN (o:Obj):HO:=.frz o (.ext fun _=>True)
theorem qv {o:Obj} (e:h.get? a=some o):N9 P w H h a (KN o):=⟨e,trivial,⟨o,e⟩,fun _ _ _ _=>trivial⟩
theorem bh.kn {o:Obj} (x:bh P w H h) (e:H a=some (KN o)):h.get? a=some o:=(x a _ e).1
theorem bh.know {o:Obj} (x:bh P w H h) (n:H a=none) (e:h.get? a=some o):bh P w (t6 H a (KN o)) h:=fun b u q=>by
 by_cases hb:b=a
 ·subst hb
  rw[f6] at q
  cases q
  exact qv e
 ·rw[B6 hb] at q
  exact (x b u q).stay (fun _ _ _ z=>z) (fun c z=>by rw[B6 (v8 z n)];exact z) fun c xs z=>by rw[B6 (v8 z n)];exact z
theorem Un.know {fs ex:List Addr}(u:Un fs ex H H' h h') (n:H' a=none) (na:h.get? a=none):Un fs ex H (t6 H' a o) h h' where
 keep:=u.keep
 slot:=u.slot
 free:=fun b ob q m hx=>by
  rw[B6 (fun z=>by rw[z,na] at q;cases q)]
  exact u.free b ob q m hx
 there:=u.there
 tups:=fun b xs q=>by
  rw[B6 (v8 (u.tups b xs q) n)]
  exact u.tups b xs q
 frzs:=fun b ob xs q=>by
  rw[B6 (v8 (u.frzs b ob xs q) n)]
  exact u.frzs b ob xs q
 tbls:=fun b ps q=>by
  obtain ⟨m,e⟩:=u.tbls b ps q
  exact ⟨m,by rw[B6 (v8 e n)];exact e⟩
section
variable {P:j9}{w:t9}{fs:List Addr}{H H':Hp}{s s':d7}{a C:Addr}{M:oP}{A:v7}{E:d6->d7->Prop}{Q:Unit->d7->Prop}
theorem DA.noteW {bs:Heap}{ev:Env}{out:List Env}{L:Addr} (F:DA P w (kr (ev::out)) H s a C H' s') (fr:A.frames=some (ev::out)) (ff:s'.heap.FunFrames bs (ev::out)) (fl:ev.frame=some L) (hfs:∀b∈kr (ev::out),H' b=none)
  (q:∀s'',DA P w (kr (ev::out)) H s a C H' s''->Q () s''):r0 M A (Dd (.ref a) ev) (fun _ s2=>r0 M A (tu (.ref a) none) Q E s2) E s':=by
 obtain ⟨T0,x,n1,n2,n3,n4⟩:=F.exc
 refine BO fr ff fl x fun h' T k0 k00 k1 k2=>q _ ?_
 have neA:∀b o,s.heap.get? b=some o->b≠a/\some T0≠some b:=fun b o e=>by
  refine ⟨fun z=>?_,fun z=>?_⟩
  ·rw[z,n1] at e;cases e
  ·have z':=D1 z
   rw[<- z',n2] at e;cases e
 refine ⟨F.os,F.bare,⟨fun b o e n hb hx=>?_,fun b o e n hb hx=>?_,F.un.free,fun b o e hx=>?_,F.un.tups,F.un.frzs,F.un.tbls⟩,Gd (hd:=some T0) n3 (fun T' z=>by cases z;exact n4) hfs k1 F.hok,T,k0,n1,?_,n3,F.hok.fresh k00⟩
 ·obtain ⟨m1,m2⟩:=neA b o e
  exact k1 b o m1 m2 hb (F.un.keep b o e n hb hx)
 ·obtain ⟨m1,m2⟩:=neA b o e
  obtain ⟨sl,e1⟩:=F.un.slot b o e n hb hx
  obtain ⟨sl',e2⟩:=k2 b _ m1 m2 e1
  exact ⟨sl',e2⟩
 ·obtain ⟨m1,m2⟩:=neA b o e
  obtain ⟨o',e1⟩:=F.un.there b o e hx
  obtain ⟨sl',e2⟩:=k2 b _ m1 m2 e1
  exact ⟨_,e2⟩
 ·exact cV F.un (jD k00)
theorem DA.landW (F:DA P w fs H s a C H' s') (hfs:∀b∈fs,H' b=none) (q:∀s'',DA P w fs H s a C H' s''->Q () s''):r0 M A (tu (.ref a) none) Q E s':=by
 obtain ⟨T,⟨oe,vs,oT,ts,e1,e2,e3,e4,e5,ne,t1,t2,t3⟩,n1,n2,n3,n4⟩:=F.exc
 refine wpAny_setFlight_none e1 e4 e5 t1 t2 (Array.getElem?_eq_some_iff.mp t3).1 (q _ ?_)
 have ot:∀b,b≠T->(s'.heap.update T (U6 (·.setIfInBounds 3 D9))).get? b=s'.heap.get? b:=fun b hb=>K8 _ _ (M3 hb)
 have nT:∀b o,s.heap.get? b=some o->b≠T:=fun b o e z=>by rw[z,n2] at e;cases e
 refine ⟨F.os,F.bare,⟨fun b o e n hb hx=>(ot b (nT b o e)).trans (F.un.keep b o e n hb hx),fun b o e n hb hx=>?_,F.un.free,fun b o e hx=>?_,F.un.tups,F.un.frzs,F.un.tbls⟩,?_,T,?_,n1,n2,n3,n4⟩
 ·obtain ⟨sl,z⟩:=F.un.slot b o e n hb hx
  exact ⟨sl,(ot b (nT b o e)).trans z⟩
 ·obtain ⟨o',z⟩:=F.un.there b o e hx
  exact ⟨o',(ot b (nT b o e)).trans z⟩
 ·exact Gd (fs:=fs) (hd:=some T) n3 (fun T' z=>by cases z;exact n4) hfs (fun b o _ hb _ e=>(ot b fun z=>hb (by rw[z])).trans e) F.hok
 ·exact ⟨oe,vs,_,_,(ot a (M3 ne)).trans e1,e2,e3,e4,e5,ne,Y7 _ t1 (cE (S3 t2 _)),S3 t2 _,by
   rw[je (Array.getElem?_eq_some_iff.mp t3).1]⟩
end
variable {oe:Obj}
theorem zI {D:Addr}{Q:Bool->d7->Prop} (X:K.In s.heap) (he:s.heap.get? a=some oe) (hc:oe.cls=.ref C)
  (h1:vM K (.ref C) (.ref D)=some true) (h2:lH K (.ref D) (.type "BaseException")=some true) (q:Q true s):r0 M A (excMatches (.ref a) (.ref D)) Q E s:=by
 obtain ⟨l1,l2,l3⟩:=W.kit_cls (M:=M) X h1
 have l4:=W.looks_subIn (M:=M) X h2
 have l5:Iy M s.heap (typeOf (.ref a)) (.ref C):=hc ▸ (W.Looks.ld he).andThen .now
 have l6:Iy M s.heap (isInstance (.ref D) (.type "tuple")) false:=l1.andThen (Di tc_notTuple)
 have l7:Iy M s.heap (isExcClass (.ref D)) true:=l2.andThen (by simpa using l4)
 unfold excMatches
 refine b8 (l6.here ?_)
 simp only[lK,if_false]
 refine b8 (i8 ?_)
 simp only[dA,eE]
 refine b8 (b8 (b8 (l7.here ?_)))
 simp only[Bool.not_true,lK,if_false]
 refine i8 (i8 (b8 (l5.here (b8 (b8 (b8 (l3.here ?_)))))))
 simp only[if_true]
 exact i8 (i8 (i8 q))
noncomputable abbrev Cx.marked (X:Cx) (v:d6):Cx:={ X with A:=X.A.mark (some v),calm:=false,xe:=fun _ _=>False }
theorem C6.marked {X:Cx}{pins:List (Addr × Obj)}{σ:St}{H:Hp}{s:d7} (I:C6 X pins σ H s) (v:d6):C6 (X.marked v) pins σ H s :=
 ⟨⟨I.ok.mod,I.ok.kind,I.ok.glob,I.ok.blt,I.ok.above,I.ok.inj,I.ok.has,I.ok.cab,(fun z=>absurd z (by simp)),I.ok.frames,I.ok.stk,I.ok.exf,I.ok.bs,I.ok.bsz,I.ok.noex,I.ok.exfs,I.ok.funs,I.ok.frf⟩,
  I.os,I.bare,I.base,I.loc,I.cell,I.free,I.freeC,I.pin,I.hok,I.len⟩
theorem C6.unmarked {v:d6} (ok:X.Ok) (I:C6 (X.marked v) pins σ H s):C6 X pins σ H s :=
 ⟨ok,I.os,I.bare,I.base,I.loc,I.cell,I.free,I.freeC,I.pin,I.hok,I.len⟩
variable {pos:Pos}
theorem yY {i:Nat}{n:Str}(I:C6 X pins σ H s) (hN:X.N.Nodup) (hi:X.N[i]?=some n) (hl:X.env.scope.names.lookup n=some .local)
  (q:∀s',C6 X pins (σ.set i none) H s'->Q () s'):r0 M A (do yO X.env n .none;FU X.env n pos) Q E s:=by
 refine b8 (yL (eP I hN hi (.inl hl) (v:=.non) rfl (fun s1 I1=>?_) (.inr hl)))
 unfold FU
 refine oK ?_
 obtain ⟨m,hn,hlk⟩:=id I1.loc
 have hcls:(X.env.scope.kind == .class || (X.env.scope.kind == .module&&X.env.locals != X.env.globals))=false:=by rw[I.ok.kind];rfl
 have hiσ:i<σ.length:=by rw[I.len];exact (List.getElem?_eq_some_iff.mp hi).1
 obtain ⟨u0,_,lk0⟩:=hlk i n .non hi (X3 hiσ) (.inl hl)
 have hv:m n=some u0:=by
  rcases lk0 with ⟨_,z⟩|⟨z,_⟩
  ·exact z
  ·have z':X.env.scope.names.lookup n=some .cell ∨ X.env.scope.names.lookup n=some .free:=z
   rw[hl] at z'
   rcases z' with z'|z' <;> cases z'
 have cne:=I1.cne
 obtain ⟨oL,_,_,hoL,_⟩:=id hn
 refine wpAny_unbindName_local (show X.env.kindOf n=some .local from hl) hn hv hcls fun h' u hn' hs=>q _ ?_
 have neL:∀b o,X.s₀.heap.get? b=some o->b≠X.env.locals:=fun b o e=>w9 (B4 (m7 e) I.ok.above)
 refine ⟨I.ok,I1.os,I1.bare,⟨fun b o e n hb hx=>(hs.2 b (neL b o e)).trans (I1.base.keep b o e n hb hx),fun b o e n hb hx=>?_,I1.base.free,fun b o e hx=>?_,I1.base.tups,I1.base.frzs,I1.base.tbls⟩,⟨_,hn',fun j y v' e1 e2 e3=>?_⟩,fun y c e=>?_,I1.free,I1.freeC,fun p hp=>?_,fun b ob e=>?_,by simpa using I.len⟩
 ·obtain ⟨sl,z⟩:=I1.base.slot b o e n hb hx
  exact ⟨sl,(hs.2 b (neL b o e)).trans z⟩
 ·obtain ⟨o',z⟩:=I1.base.there b o e hx
  exact ⟨o',(hs.2 b (neL b o e)).trans z⟩
 ·by_cases hj:j=i
  ·subst hj
   rw[X3 hiσ] at e2
   cases e2
  ·rw[K4 (M3 hj)] at e2
   have e2':(σ.set i (some V.non))[j]?=some (some v'):=by rw[K4 (M3 hj)];exact e2
   obtain ⟨u',r',z⟩:=hlk j y v' e1 e2' e3
   refine ⟨u',r',?_⟩
   rcases z with ⟨k,e⟩|⟨k,c,e,z⟩
   ·refine .inl ⟨k,?_⟩
    have ny:y≠n:=fun e=>hj (nW hN e1 (e ▸ hi))
    simp[ny,e]
   ·exact .inr ⟨k,c,e,z.sameBut hs (cne y c e)⟩
 ·obtain ⟨w',z⟩:=I1.cell y c e
  exact ⟨w',z.sameBut hs (cne y c e)⟩
 ·obtain ⟨e,n,ne,nf,d⟩:=I1.pin p hp
  exact ⟨(hs.2 p.1 ne).trans e,n,ne,nf,d⟩
 ·refine (I1.hok b ob e).stay (fun c w' hc z=>(hs.2 c ?_).trans z) (fun _ z=>z) fun _ _ z=>z
  rintro rfl
  have fr:=I1.free
  rcases hc with rfl|hc
  ·rw[fr] at e;cases e
  ·rw[fr] at hc;cases hc
noncomputable def Ir (X:Cx) (k:Nat) (fa:Addr) (sp:Sp) (H:Hp):Prop :=
 ∃fo fd,H fa=some (KN fo)/\fo.data=.func fd/\yP fd ⟨[],[]⟩=pure []/\M0 X.prog X.w X.K X.mg X.base (jG X.prog X.w) k fa fd [] sp
noncomputable def oI (oe:Obj) (C:Addr):Prop:=oe.cls=.ref C/\oe.dict=none/\∃vs,oe.data=.fields vs
noncomputable def tTry (X:Cx) (k iC iE iR:Nat) (B:Addr):TS:=fun D σ H=>∃fa sp,σ[iC]?=some (some (.ref fa))/\Ir X k fa sp H /\
 sp [] H (fun _ H1=>D.nx σ H1) (fun c _ H1=>∃C,c=.ref C/\vM X.K (.ref C) (.ref B)=some true/\∀a oe,oI oe C->H1 a=none->D.nx ((σ.set iR (some (.ref a))).set iE none) (t6 H1 a (KN oe)))
theorem Eh {iC iE iR:Nat}{xc xT n xr:Str}{B:Addr}{p1 p2 p3 p4 p5 p6 p7 p8 p9:Pos} (hs:X.stack=X.env::X.outer) (hfl:X.env.frame=some X.env.locals) (hr:bg k X.A) (hN:X.N.Nodup)
  (hC:X.N[iC]?=some xc) (hCv:Ka X.env.scope xc) (hE:X.N[iE]?=some n) (hEl:X.env.scope.names.lookup n=some .local) (hR:X.N[iR]?=some xr) (hRl:X.env.scope.names.lookup xr=some .local) (hne:iE≠iR)
  (hg:Gl X xT) (hm:X.mg xT=some (.ref B)) (hB:lH X.K (.ref B) (.type "BaseException")=some true)
  (d1:(xc == ("__debug__":Str))=false:=by decide) (d2:(xc == ("__classdict__":Str))=false:=by decide) (d3:(xT == ("__debug__":Str))=false:=by decide) (d4:(n == ("__debug__":Str))=false:=by decide) (d5:(n == ("__classdict__":Str))=false:=by decide)
  (w1:mz (.Call (.Name xc p1) [] [] p2) none p3.line X.env=pure false:=by rfl) (w2:mz (.Name n p6) (some (.Name xr p5)) p7.line X.env=pure false:=by rfl)
  (w3:Ag [.Name xr p5] (.Name n p6) X.env=pure none:=by rfl):
  PS X (.Try [.Expr (.Call (.Name xc p1) [] [] p2) p3] [.ExceptHandler (some (.Name xT p4)) (some n) [.Assign [.Name xr p5] (.Name n p6) p7] p8] [] [] p9) (tTry X k iC iE iR B):=by
 intro pins s σ H D I h
 obtain ⟨fa,sp,e0,⟨fo,fd,kn,hfd,bnd,F⟩,hsp⟩:=h
 refine wpAny_Try_except (tq (wpAny_Expr_any (Y9 ?_) I.quiet w1))
 have hv:=wx (X:=X.nox) (i:=iC) (x:=xc) (pos:=p1) hC hCv d1 d2 pins s σ H (fun v H1=>v=.ref fa/\H1=H) (I.wish _) ⟨_,e0,rfl,rfl⟩
 refine F0 hv (fun u s1 ⟨v,H1,I1,r,ev,eH⟩=>?_) fun _ _ z=>E2 z
 subst ev
 subst eH
 obtain rfl:u=B1 fa:=r
 have I2:C6 X pins σ H1 s1:=I1.unwish
 have hfa:W.FnAt fa s1.heap:=by
  have z:=I2.hok.kn kn
  obtain ⟨c,d,dt,sl⟩:=fo
  dsimp only at hfd
  subst hfd
  exact ⟨c,d,fd,sl,z⟩
 refine W.callWith_F0 hfa (oU (jJ (F.run X.A X.stack s1 H1 ⟨[],[]⟩ [] [] _ _ hr I2.env0 (.of_eq bnd) .nil hsp) fun res s' hq=>?_))
 cases res with
 | ok fl =>
  cases fl with
  | ret u =>
   obtain ⟨v,H',I3,rv,q3⟩:=I2.after hq
   exact bG (bG ⟨σ,H',I3,q3⟩)
  | next=>exact E2 hq
  | brk=>exact E2 hq
  | cont=>exact E2 hq
 | error e =>
  obtain ⟨a,C,H',rfl,F1,C',ec,hk,hnx⟩:=hq
  cases ec
  have hfr:kr X.stack=kr (X.env::X.outer):=by rw[hs]
  have I3:C6 X pins σ H' s':=I2.call' (ch:=[]) F1.os F1.un F1.hok F1.bare (fun b z=>absurd z (by simp))
  have F1':DA X.prog X.w (kr (X.env::X.outer)) H1 s1 a C H' s':=by rw[<- hfr];exact F1
  have fr0:∀b∈kr (X.env::X.outer),H' b=none:=fun b hb=>I3.stkFree b (by rw[hfr];exact hb)
  refine F1'.noteW (bs:=X.base) (by rw[I.ok.frames,hs]) (by rw[<- hs];exact I3.stack) hfl fr0 fun s3 F3=>?_
  have inv:∀s4,DA X.prog X.w (kr (X.env::X.outer)) H1 s1 a C H' s4->C6 X pins σ H' s4:=fun s4 F4=>I2.call' (ch:=[]) F4.os (by rw[hfr];exact F4.un) F4.hok F4.bare (fun b z=>absurd z (by simp))
  refine wpAny_handleBy_cons (codeAny_handlers_test (kc (X:=X.marked (.ref a)) ((inv s3 F3).marked _) hg hm ?_ d3)) (by intro q;cases q)
  obtain ⟨T3,x3,n1,n2,n3,n4⟩:=F3.exc
  obtain ⟨oe3,vs3,e31,e32,e33,e34⟩:=x3.at
  refine zI (inv s3 F3).kIn e31 e32 hk hB ?_
  show jK _ _ _ _ s3
  refine codeAny_handlers_suite_as (F3.landW fr0 fun s4 F4=>?_)
  obtain ⟨T4,x4,m1,m2,m3,m4⟩:=F4.exc
  obtain ⟨oe,vs,e41,e42,e43,e44⟩:=x4.at
  have I4:C6 X pins σ (t6 H' a (KN oe)) s4:=I2.call' (ch:=[]) F4.os (by rw[hfr];exact F4.un.know m3 m1) (F4.hok.know m3 e41) F4.bare (fun b z=>absurd z (by simp))
  refine eP (X:=X.marked (.ref a)) (I4.marked _) hN hE (.inl hEl) (v:=.ref a) rfl (fun s5 I5=>?_) (.inr hEl)
  have hst:pM (X.marked (.ref a)) [.Assign [.Name xr p5] (.Name n p6) p7] (Eb (O9 iE) (N7 iR)):=v5 (D6 hN hR (.inl hRl) (wx hE (.inl hEl) d4 d5) w2 (.inr hRl))
  have hlen:iE<σ.length:=by rw[I.len];exact (List.getElem?_eq_some_iff.mp hE).1
  refine F0 (hst pins s5 _ _ { nx:=fun σ' H2=>σ'=(σ.set iE (some (.ref a))).set iR (some (.ref a))/\H2=t6 H' a (KN oe),rt:=fun _ _=>False } I5 ⟨.ref a,X3 hlen,rfl,rfl⟩) (fun f s6 q=>?_) fun _ _ z=>E2 z
  cases f with
  | ret v=>obtain ⟨_,_,_,_,_,z⟩:=q;exact E2 z
  | brk=>obtain ⟨_,_,_,z⟩:=q;exact E2 z
  | cont=>obtain ⟨_,_,_,z⟩:=q;exact E2 z
  | next =>
   obtain ⟨σ6,H6,I6,eσ,eH⟩:=q
   subst eσ
   subst eH
   refine yY (I6.unmarked I.ok) hN hE hEl fun s7 I7=>⟨_,_,I7,?_⟩
   have z:=hnx a oe ⟨e42,e43,vs,e44⟩ m3
   have hσ:((σ.set iE (some (V.ref a))).set iR (some (V.ref a))).set iE none=(σ.set iR (some (V.ref a))).set iE none:=by
    apply fi
    intro j
    simp only[mE,T6]
    by_cases z1:iE=j <;> by_cases z2:iR=j <;> simp[z1,z2]
   rw[hσ]
   exact z
structure XI (K:m9) (C:Addr):Prop where
 ga:S7 K (.ref C) "__getattribute__"=some (some (.builtin "BaseException.__getattribute__"))
 gt:S7 K (.ref C) "__getattr__"=some none
 sb:lH K (.ref C) (.type "BaseException")=some true
 hc:(vo K C).isSome=true
 ha:S7 K (.ref C) "__class__"=some (some (.builtin "object.__class__"))
 hn:kO K (.builtin "object.__class__") "__get__"=some (some (.builtin "getset_descriptor.__get__"))
 tk:zX K (.builtin "object.__class__")=some true
 hm:Iv K C (.type "object")=some true
variable {name:Str}
theorem sF {a g:d6} (hc:(vo K C).isSome=true) (ha:S7 K (.ref C) name=some (some a)) (hg:kO K a "__get__"=some (some g)) (ht:zX K a=some true):
  IV K C none name=some (.bind g a):=by
 obtain ⟨cd,hc⟩:=Option.isSome_iff_exists.mp hc
 unfold IV
 rw[hc,Dj,ha,Dj]
 simp[hg,ht]
theorem zy {prog:j9}{g d:d6}(X:K.In s.heap) (I:La s.heap a oe C none)
  (hga:S7 K (.ref C) "__getattribute__"=some (some (.builtin "BaseException.__getattribute__"))) (hgt:S7 K (.ref C) "__getattr__"=some none) (hs:lH K (.ref C) (.type "BaseException")=some true)
  (hf:IV K C none name=some (.bind g d)) {Q:Option d6->d7->Prop}
  (h:r0 (y6 prog w) A.in1 (call g [d,.ref a,.ref C]) (fun v s'=>r0 (y6 prog w) A (handedOut v) (fun v s''=>Q (some v) s'') (fun _ _=>False) s') (fun _ _=>False) { s with toks:=s.toks+1 }):
  r0 (y6 prog w) A (getAttr? (.ref a) name) Q E s:=by
 obtain ⟨hh,gg,dr,t,os⟩:=s
 have L0:=I.type (M:=y6 prog w)
 have L1:=KY (M:=y6 prog w) X hga
 have L2:=KY (M:=y6 prog w) X hgt
 have L3:=W.looks_find (M:=y6 prog w) X I hf
 have L4:Iy (y6 prog w) hh (isInstance (.ref a) (.type "BaseException")) true:=L0.andThen (W.looks_subIn X hs)
 have f3:=PySem.F.excAttr_ValueError.ga.bind (.ref a)
 unfold getAttr? getAttrBy? getAttrBy
 refine b8 (wpAny_mkText (b8 (bt (O5 (b8 (L0.at (b8 (L1.at ?_))))))))
 have hx2:(cD "BaseException.__getattribute__" == cD "object.__getattribute__")=false:=by decide +kernel
 have hx3:(KU (B1 C)&&cD "BaseException.__getattribute__" == cD "object.__getattribute__")=false:=by rw[hx2];rfl
 show r0 _ _ (if (KU (B1 C)&&cD "BaseException.__getattribute__" == cD "object.__getattribute__")=true then _ else getAttrByItsOwn _ _ _ _ _ _) _ _ _
 rw[hx3,if_neg (by decide)]
 unfold getAttrByItsOwn hookBefore
 simp only[KU,if_true]
 refine b8 (L2.at (b8 (bt (O5 ?_))))
 unfold callGetattribute
 rw[if_neg (by decide)]
 unfold boundAndCalled
 refine b8 (FS f3 (oU ?_))
 refine codeAny_call_builtin PySem.F.excAttr_ValueError.ga.plain PySem.F.entry_bexc_ga ?_
 have hk:builtinKind "BaseException.__getattribute__"=some .slot:=by decide +kernel
 have hsplit:splitId "BaseException.__getattribute__"=some ("BaseException","__getattribute__"):=by decide +kernel
 have ha:=PySem.F.args_bexc_ga (.ref a) (.str name t)
 simp only[checkBuiltinCall,hk,hsplit]
 refine b8 (L4.at ?_)
 repeat (first|wp_step)
 refine wpAny_loadPart I.at_ (i8 ?_)
 rw[I.cls]
 refine b8 (L3.at ?_)
 show r0 _ _ (jn g d (.ref a) (.ref C)) _ _ _
 unfold jn
 dsimp only
 exact b8 (O5 (F0 h (fun v s' z=>i8 (F0 z (fun v s'' q=>i8 q) (fun _ _ z=>z.elim))) (fun _ _ z=>z.elim)))
theorem oI.inst (x:oI oe C) (e:h.get? a=some oe):La h a oe C none:=by
 obtain ⟨c,d,vs,hv⟩:=x
 refine ⟨e,c,?_,?_⟩
 ·obtain ⟨c0,d0,dt,sl⟩:=oe
  dsimp only at hv
  subst hv
  rfl
 ·rw[d]
  trivial
theorem Cc (Z:XI K C) (x:oI oe C):W.KitX K (.ref a) (.ref C) (fun h=>h.get? a=some oe) where
 ty:=fun _ _ _ e=>(x.inst e).type
 it:=fun _ _ X _=>by
  obtain ⟨cd,hcD⟩:=Option.isSome_iff_exists.mp Z.hc
  unfold vo at hcD
  split at hcD
  case h_2=>cases hcD
  case h_1 c' d' cd' sl' ho =>
   intro A' Q' E' s' k q
   unfold isType loadHead
   exact b8 (wpAny_loadPart (k _ _ (X _ _ ho)) (i8 q))
 ne:=fun h tp dd its n sl X htp=>by
  obtain ⟨cd,hcD⟩:=Option.isSome_iff_exists.mp Z.hc
  refine Bool.eq_false_iff.mpr fun q=>?_
  have e:C=tp:=Value.ref.inj (beq_iff_eq.mp q)
  subst e
  unfold vo at hcD
  split at hcD
  case h_2=>cases hcD
  case h_1 c' d' cd' sl' ho =>
   have z:=(X _ _ ho).symm.trans htp
   cases z
 ca:=fun {_ _ _ _ _ s} X e k=>by
  have hf:=sF Z.hc Z.ha Z.hn Z.tk
  have I:=x.inst e
  exact zy X I Z.ga Z.gt Z.sb hf (oU (W.class_get (s:={ s with toks:=s.toks+1 }) (ox:=oe) (od:=none) X I Z.hm (W.handed_on rfl k)))
noncomputable def clV:V->Option d6
 | .ref D=>some (.ref D)
 | .ty T=>some (.type T)
 | _=>none
noncomputable def rIsX (K:m9):List V->Hp->VK->Prop:=fun xs H Q=>∃a oe C c cv b,xs=[.ref a,c]/\H a=some (KN oe)/\oI oe C/\XI K C/\clV c=some cv/\aZ K (.ref C) cv=some b/\Q (.bl b) H
theorem Y5 :bp X (.builtin "isinstance") (rIsX X.K):=by
 intro pins s σ H xs us Q I r h
 obtain ⟨a,oe,C,c,cv,b,rfl,ha,x,Z,hcv,hk,q⟩:=h
 cases r with
 | cons r1 rr =>
  cases rr with
  | cons r2 rr =>
   cases rr
   cases r1
   have ec:∀u,G8 c u->u=cv:=fun u ru=>by
    cases c with
    | ref D=>cases hcv;exact ru
    | ty T=>cases hcv;exact ru
    | _=>cases hcv
   have eu:=ec _ r2
   subst eu
   exact Z5 (Cc Z x) I.kIn (I.hok.kn ha) hk (by intro z;cases z) fun tk=>⟨.bl b,H,I.tok tk,rfl,q⟩
theorem xv:∀{bs:List Bool}{us:List d6},F2 (bs.map V.bl) us->us=bs.map W7
 | [],_,.nil=>rfl
 | _::_,_,.cons r t=>by rw[xv t];cases r;rfl
noncomputable def JA:V->List V->Hp->VK->Prop:=fun x vs H Q=>∃(l:Addr) (bs:List Bool) (j:Nat),x=.ref l/\vs=[.bl true]/\H l=some (.lst (bs.map V.bl))/\bs[j]?=some true/\(∀m,m<j->bs[m]?=some false)/\Q (.int j) H
theorem zq :Kg X "list.index" JA:=by
 intro pins s σ H x vs v us Q I rx rv h
 obtain ⟨l,bs,j,rfl,rfl,hH,hj,hno,q⟩:=h
 cases rx
 obtain ⟨u,rfl,ru⟩:=rv.one
 cases ru
 obtain ⟨z,its,n,r,hl,e⟩:=I.lstM hH
 have ei:=xv r
 subst ei
 obtain ⟨j1,j2⟩:=List.getElem?_eq_some_iff.mp hj
 have z':bs.length<=i7:=by simpa using z
 have hsz:i7<2 ^ 63 - 1:=by decide
 refine W2 F.slot_list_index ⟨_,e,rfl⟩ F.entry_list_index (F.args_list_index_2 _ _)
  (SeqAt.list_indexAt l (bs.map W7).toArray n none #[] (.bool true) (fun y=>y == W7 true) j (by simpa using j1) (by lia) ?_ ?_) ⟨e,fun y hy=>?_,?_⟩
 ·simp[j2]
 ·intro m hm hlt
  have:=hno m hlt
  obtain ⟨m1,m2⟩:=List.getElem?_eq_some_iff.mp this
  simp[m2]
 ·obtain ⟨b,hb,rfl⟩:∃b,b∈bs/\W7 b=y:=by simpa using hy
  have eb:(W7 b == W7 true)=(b == true):=by cases b <;> rfl
  show SeqAt.EqAt _ _ _ _ (W7 b == W7 true)
  rw[eb]
  exact SeqAt.EqAt.bool_bool b true
 ·exact ⟨.int j,H,I.tok _,⟨_,rfl⟩,q⟩
noncomputable def gq (cl:List (Str × Addr)) (b:Addr):Prop:=∃x,cl.lookup x=some b
open Classical in
noncomputable def bc (cl:List (Str × Addr)) (H:Hp):Hp:=fun b=>if gq cl b then none else H b
open Classical in
noncomputable def vD (cl:List (Str × Addr)) (H H':Hp):Hp:=fun b=>if gq cl b then H b else H' b
theorem fM (h:gq cl b):bc cl H b=none:=by unfold bc;rw[if_pos h]
theorem M9 (h:¬ gq cl b):bc cl H b=H b:=by unfold bc;rw[if_neg h]
theorem wB (h:gq cl b):vD cl H H' b=H b:=by unfold vD;rw[if_pos h]
theorem bM (h:¬ gq cl b):vD cl H H' b=H' b:=by unfold vD;rw[if_neg h]
noncomputable def vj (cl:List (Str × Addr)) (H:Hp):Prop:=∀x c,cl.lookup x=some c->∃oc v,H c=some (KN oc)/\oc.data=.cell v
section
variable {P:j9}{w:t9}{fs:List Addr}{cl:List (Str × Addr)}{H H':Hp}{h h':Heap}
theorem BN (ok:bh P w H h) (ck:vj cl H):bh P w (bc cl H) h:=fun b o e=>by
 have nb:¬ gq cl b:=fun z=>by rw[fM z] at e;cases e
 rw[M9 nb] at e
 have nk:∀c u,H c=some u->(∀oc,u≠KN oc)->¬ gq cl c:=fun c u q n ⟨x,z⟩=>by
  obtain ⟨oc,v,q',_⟩:=ck x c z
  rw[q] at q'
  exact n oc (D1 q')
 refine (ok b o e).stay (fun _ _ _ q=>q) (fun c q=>?_) fun c xs q=>?_
 ·rw[M9 (nk c _ q (by intro oc z;cases z))];exact q
 ·rw[M9 (nk c _ q (by intro oc z;cases z))];exact q
theorem Fs (u:Un fs [] (bc cl H) H' h h') (ok:bh P w H h) (ck:vj cl H) (hfs:∀b∈fs,H b=none):Un fs [] H (vD cl H H') h h':=by
 have nc:∀b,H b=none->¬ gq cl b:=fun b n ⟨x,z⟩=>by
  obtain ⟨oc,v,q,_⟩:=ck x b z
  rw[n] at q;cases q
 have nk:∀c u,H c=some u->(∀oc,u≠KN oc)->¬ gq cl c:=fun c u q n ⟨x,z⟩=>by
  obtain ⟨oc,v,q',_⟩:=ck x c z
  rw[q] at q'
  exact n oc (D1 q')
 refine ⟨fun b o e n hb hx=>u.keep b o e (by rw[M9 (nc b n)];exact n) hb hx,fun b o e n hb hx=>u.slot b o e (by rw[M9 (nc b n)];exact n) hb hx,fun b o e n hx=>?_,u.there,fun b xs q=>?_,fun b o xs q=>?_,fun b ps q=>?_⟩
 ·rw[bM (nc b n)]
  exact u.free b o e (by rw[M9 (nc b n)];exact n) hx
 ·have z:=nk b _ q (by intro oc z;cases z)
  rw[bM z]
  exact u.tups b xs (by rw[M9 z];exact q)
 ·by_cases z:gq cl b
  ·rw[wB z];exact q
  ·rw[bM z]
   exact u.frzs b o xs (by rw[M9 z];exact q)
 ·have z:=nk b _ q (by intro oc z;cases z)
  obtain ⟨m,e⟩:=u.tbls b ps (by rw[M9 z];exact q)
  exact ⟨m,by rw[bM z];exact e⟩
theorem Ck (u:Un fs [] (bc cl H) H' h h') (ok:bh P w H h) (ok':bh P w H' h') (ck:vj cl H) (hfs:∀b∈fs,H b=none):bh P w (vD cl H H') h':=fun b o e=>by
 have hn:∀c,gq cl c->H' c=none/\∃oc v,H c=some (KN oc)/\oc.data=.cell v/\h'.get? c=some oc:=fun c z=>by
  obtain ⟨x,zx⟩:=z
  obtain ⟨oc,v,q,d⟩:=ck x c zx
  have g:=ok.kn q
  exact ⟨u.free c oc g (fM ⟨x,zx⟩) (by simp),oc,v,q,d,u.keep c oc g (fM ⟨x,zx⟩) (fun hb=>by rw[hfs c hb] at q;cases q) (by simp)⟩
 by_cases z:gq cl b
 ·rw[wB z] at e
  obtain ⟨_,oc,v,q,d,g⟩:=hn b z
  rw[q] at e
  cases e
  exact qv g
 ·rw[bM z] at e
  refine (ok' b o e).stay (fun _ _ _ q=>q) (fun c q=>?_) fun c xs q=>?_
  ·rw[bM (fun zc=>by rw[(hn c zc).1] at q;cases q)];exact q
  ·rw[bM (fun zc=>by rw[(hn c zc).1] at q;cases q)];exact q
theorem Ge {Hf:Hp} (u:Un fs [] Hf H' h h') (ok:bh P w Hf h) (ok':bh P w H' h') (ck:vj cl Hf) (hc:∀b,gq cl b->H b=none) (ho:∀b,¬ gq cl b->Hf b=H b):Un fs [] H (bc cl H') h h'/\bh P w (bc cl H') h':=by
 have hk:∀b,gq cl b->∃oc v,H' b=some (KN oc)/\oc.data=.cell v/\h.get? b=some oc/\h'.get? b=some oc:=fun b z=>by
  obtain ⟨x,zx⟩:=z
  obtain ⟨oc,v,q,d⟩:=ck x b zx
  have q':=u.frzs b _ _ q
  exact ⟨oc,v,q',d,ok.kn q,ok'.kn q'⟩
 have nk:∀c u,H' c=some u->(∀oc,u≠KN oc)->¬ gq cl c:=fun c u q n z=>by
  obtain ⟨oc,v,q',_⟩:=hk c z
  rw[q] at q'
  exact n oc (D1 q')
 have nh:∀c u,H c=some u->¬ gq cl c:=fun c u q z=>by rw[hc c z] at q;cases q
 refine ⟨⟨fun b o e n hb hx=>?_,fun b o e n hb hx=>?_,fun b o e n hx=>?_,u.there,fun b xs q=>?_,fun b o xs q=>?_,fun b ps q=>?_⟩,fun b o e=>?_⟩
 ·by_cases z:gq cl b
  ·obtain ⟨oc,v,_,_,g,g'⟩:=hk b z
   rw[e] at g;cases g
   exact g'
  ·exact u.keep b o e (by rw[ho b z];exact n) hb hx
 ·by_cases z:gq cl b
  ·obtain ⟨oc,v,_,_,g,g'⟩:=hk b z
   rw[e] at g;cases g
   exact ⟨o.slots,g'⟩
  ·exact u.slot b o e (by rw[ho b z];exact n) hb hx
 ·by_cases z:gq cl b
  ·exact fM z
  ·rw[M9 z]
   exact u.free b o e (by rw[ho b z];exact n) hx
 ·have z:=nh b _ q
  rw[M9 z]
  exact u.tups b xs (by rw[ho b z];exact q)
 ·have z:=nh b _ q
  rw[M9 z]
  exact u.frzs b o xs (by rw[ho b z];exact q)
 ·have z:=nh b _ q
  obtain ⟨m,e⟩:=u.tbls b ps (by rw[ho b z];exact q)
  exact ⟨m,by rw[M9 z];exact e⟩
 ·have z:¬ gq cl b:=fun z=>by rw[fM z] at e;cases e
  rw[M9 z] at e
  refine (ok' b o e).stay (fun _ _ _ q=>q) (fun c q=>?_) fun c xs q=>?_
  ·rw[M9 (nk c _ q (by intro oc z;cases z))];exact q
  ·rw[M9 (nk c _ q (by intro oc z;cases z))];exact q
end
noncomputable def kK (q:Str) (T:Addr) (H:Hp):Prop:=∃ps,H T=some (.tbl ps)/\fS ps.toList /\
 ∀pos v,fQ pos ps.toList=some v->∃c oc vs t,v=.ref c/\H c=some (KN oc)/\oc.data=.fields vs/\vs[1]?=some (.str q t)
variable {l:List d6}
theorem lM (h:fS l):l=[] ∨ ∃i t j u c r,l=.int i t::.int j u::c::r/\fS r:=by
 unfold fS at h
 split at h
 ·exact .inl rfl
 ·exact .inr ⟨_,_,_,_,_,_,rfl,h⟩
 ·exact h.elim
theorem tL {i j:Int}{t u:Tok}{c:d6} (h:fS l):fS (l++[.int i t,.int j u,c]):=by
 generalize hn:l.length=n
 induction n using IA generalizing l with
 | _ n ih =>
  rcases lM h with e|⟨a,ta,b,tb,x,r,e,hr⟩
  ·subst e;trivial
  ·subst e
   have z:fS (r++[.int i t,.int j u,c]):=ih r.length (by rw[<- hn];simp only[r6];lia) hr rfl
   exact z
theorem zT {i j:Int}{t u:Tok}{c v:d6} (h:fS l) (e:fQ pos (l++[.int i t,.int j u,c])=some v):fQ pos l=some v ∨ v=c:=by
 generalize hn:l.length=n
 induction n using IA generalizing l with
 | _ n ih =>
  rcases lM h with q|⟨a,ta,b,tb,x,r,q,hr⟩
  ·subst q
   have e':(if (i == (pos.line:Int)&&j == (pos.col:Int))=true then some c else fQ pos [])=some v:=e
   by_cases z:(i == (pos.line:Int)&&j == (pos.col:Int))=true
   ·rw[if_pos z] at e';exact .inr (D1 e').symm
   ·rw[if_neg z] at e';cases e'
  ·subst q
   have e':(if (a == (pos.line:Int)&&b == (pos.col:Int))=true then some x else fQ pos (r++[.int i t,.int j u,c]))=some v:=e
   show (if (a == (pos.line:Int)&&b == (pos.col:Int))=true then some x else fQ pos r)=some v ∨ v=c
   by_cases z:(a == (pos.line:Int)&&b == (pos.col:Int))=true
   ·rw[if_pos z] at e'
    rw[if_pos z]
    exact .inl e'
   ·rw[if_neg z] at e'
    rw[if_neg z]
    exact ih r.length (by rw[<- hn];simp only[r6];lia) hr e' rfl
structure Ki (X:Cx) (T:Addr):Prop where
 code:∃c,X.env.code=.ref c/\W.CodeHd X.base c T
 blt:X.base.BuiltinsAt X.mg T
noncomputable abbrev uz (X:Cx):Str:=X.env.qual++"<lambda>"
noncomputable abbrev Ca (X:Cx) (params:cq) (body:Expr) (scope:N3) (c:Addr) (ctv:d6):Obj:=zY "<lambda>" (uz X) params body scope (S1 X.env scope.names []) ((X.mg "__name__").getD .none) c ctv
noncomputable def yH (q:Str) (H:Hp) (c:Addr):Prop:=∃oc vs t,H c=some (KN oc)/\oc.data=.fields vs/\vs[1]?=some (.str q t)
noncomputable def tLam (X:Cx) (T:Addr) (params:cq) (body:Expr) (scope:N3):TE:=fun σ H Q=>kK (uz X) T H /\
 ∀f c ctv H',(∀b o,b≠T->H b=some o->H' b=some o)->kK (uz X) T H'->H f=none->H' f=some (KN (Ca X params body scope c ctv))->yH (uz X) H' c->Q (.ref f) H'
variable {T:Addr}
theorem lh {params:cq}{body:Expr}(Z:Ki X T) (hdef:defaultsOf params X.env=([],[]):=by rfl) (hf:az scope X.env=true:=by rfl):
  PE X (.Lambda params body scope pos) (tLam X T params body scope):=by
 intro pins s σ H Q I h
 obtain ⟨⟨ps,hP,ht,hk⟩,q⟩:=h
 obtain ⟨c,hc,C⟩:=Z.code
 obtain ⟨bm,ob,b1,b2,b3,b4,b5,b6⟩:=Z.blt
 have hcl:=eD (I.closed hf)
 have hg:=I.mod.glob.keeps I.bk
 have gP:s.heap.get? T=some (DM ps):=I.hok T _ hP
 have hgT:u5≠T:=fun z=>by
  obtain ⟨o,es,ep,e,hd,_⟩:=hg
  rw[z,gP] at e;cases e;cases hd
 have hB:s.heap.BuiltinsAt X.mg T:=⟨bm,ob,b1,b2,b3,b4,I.bk _ _ b5,b6⟩
 refine W.kla_eval hdef ?_
 cases e:fQ pos ps.toList with
 | none =>
  refine W.kla_makeFunction (mg:=X.mg) hcl I.ok.glob hg hc (C.keeps I.bk) gP ht e hgT hB fun c' ctv h' tk hx hge hlt hrec htb=>?_
  obtain ⟨c2,oc,vs,t,e2,hoc,hd,hv⟩:=hrec
  cases e2
  have nT:T<s.heap.objs.size:=m7 gP
  have cT:c'≠T:=fun z=>absurd hge (by rw[z];exact Nat.not_le_of_lt nT)
  have fT:h'.objs.size≠T:=fun z=>absurd (X7 hge hlt) (by rw[z];exact Nat.lt_asymm nT)
  have fc:c'≠h'.objs.size:=w9 hlt
  have sz:s.heap.objs.size<=h'.objs.size:=m8 hge (dX hlt)
  have nc:H c'=none:=I.hok.fresh hge
  have nf:H h'.objs.size=none:=I.hok.fresh sz
  generalize hfo:zY "<lambda>" (X.env.qual++"<lambda>") params body scope (S1 X.env scope.names []) ((X.mg "__name__").getD .none) c' ctv=fo
  generalize hps:ps++#[bQ pos.line,bQ pos.col,.ref c']=ps' at htb
  have hfree:fo.isFreed=false:=by rw[<- hfo];rfl
  have kp:∀b o,b≠T->s.heap.get? b=some o->(h'.push fo).get? b=some o:=fun b o hb eb=>f9 _ (hx b o hb eb)
  let H1:Hp:=t6 (t6 (t6 H T (.tbl ps')) c' (KN oc)) h'.objs.size (KN fo)
  have hT1:H1 T=some (.tbl ps'):=by
   show t6 (t6 (t6 H T (.tbl ps')) c' (KN oc)) h'.objs.size (KN fo) T=_
   rw[B6 (M3 fT),B6 (M3 cT),f6]
  have hc1:H1 c'=some (KN oc):=by
   show t6 (t6 (t6 H T (.tbl ps')) c' (KN oc)) h'.objs.size (KN fo) c'=_
   rw[B6 fc,f6]
  have hf1:H1 h'.objs.size=some (KN fo):=f6
  have ho1:∀b,b≠T->b≠c'->b≠h'.objs.size->H1 b=H b:=fun b z1 z2 z3=>by
   show t6 (t6 (t6 H T (.tbl ps')) c' (KN oc)) h'.objs.size (KN fo) b=_
   rw[B6 z3,B6 z2,B6 z1]
  have hs1:∀b o,b≠T->H b=some o->H1 b=some o:=fun b o z eb=>by
   rw[ho1 b z (v8 eb nc) (v8 eb nf)];exact eb
  have old:∀b o,s.heap.get? b=some o->b≠c'/\b≠h'.objs.size:=fun b o eb=>⟨w9 (B4 (m7 eb) hge),w9 (B4 (m7 eb) sz)⟩
  have uT:∀b,H b=none->b≠T:=fun b n z=>by rw[z,hP] at n;cases n
  have U:Un X.fs [] H H1 s.heap (h'.push fo):=by
   refine ⟨fun b o eb n _ _=>kp b o (uT b n) eb,fun b o eb n _ _=>⟨o.slots,kp b o (uT b n) eb⟩,fun b o eb n _=>?_,fun b o eb _=>?_,fun b xs eb=>?_,fun b o u eb=>?_,fun b qs eb=>?_⟩
   ·rw[ho1 b (uT b n) (old b o eb).1 (old b o eb).2];exact n
   ·by_cases z:b=T
    ·subst z;exact ⟨_,f9 _ htb⟩
    ·exact ⟨o,kp b o z eb⟩
   ·exact hs1 b _ (fun z=>by rw[z,hP] at eb;cases eb) eb
   ·exact hs1 b _ (fun z=>by rw[z,hP] at eb;cases eb) eb
   ·by_cases z:b=T
    ·subst z
     rw[hP] at eb;cases eb
     exact ⟨_,by rw[hT1,<- hps]⟩
    ·exact ⟨#[],by rw[hs1 b _ z eb];simp⟩
  have OK:bh X.prog X.w H1 (h'.push fo):=fun b o eb=>by
   by_cases z1:b=T
   ·subst z1
    rw[hT1] at eb;cases eb
    exact f9 _ htb
   ·by_cases z2:b=c'
    ·subst z2
     rw[hc1] at eb;cases eb
     exact qv (f9 _ hoc)
    ·by_cases z3:b=h'.objs.size
     ·subst z3
      rw[hf1] at eb;cases eb
      exact qv (q9 _ hfree)
     ·rw[ho1 b z1 z2 z3] at eb
      refine (I.hok b o eb).stay (fun d v hd qd=>kp d v ?_ qd) (fun d qd=>hs1 d _ (fun z=>by rw[z,hP] at qd;cases qd) qd) fun d xs qd=>hs1 d _ (fun z=>by rw[z,hP] at qd;cases qd) qd
      rcases hd with hd|hd
      ·rw[hd];exact z1
      ·intro z;rw[z,hP] at hd;cases hd
  have I1:=I.un (t':=tk) U OK
  have fin:=q h'.objs.size c' ctv H1 hs1 ⟨ps',hT1,?_,fun pos' v ev=>?_⟩ nf (by rw[hf1,<- hfo]) ⟨oc,vs,t,hc1,hd,hv⟩
  ·exact ⟨.ref h'.objs.size,H1,I1,rfl,fin⟩
  ·rw[<- hps]
   have z:=tL (i:=pos.line) (j:=pos.col) (t:=0) (u:=0) (c:=.ref c') ht
   simpa [bQ] using z
  ·rw[<- hps] at ev
   have ev':fQ pos' (ps.toList++[.int pos.line 0,.int pos.col 0,.ref c'])=some v:=by simpa [bQ] using ev
   rcases zT ht ev' with z|z
   ·obtain ⟨c3,oc3,vs3,t3,y1,y2,y3,y4⟩:=hk pos' v z
    exact ⟨c3,oc3,vs3,t3,y1,hs1 c3 _ (fun z=>by rw[z,hP] at y2;cases y2) y2,y3,y4⟩
   ·exact ⟨c',oc,vs,t,z,hc1,hd,hv⟩
 | some cv =>
  obtain ⟨c3,oc3,vs3,t3,y1,y2,y3,y4⟩:=hk pos cv e
  subst y1
  refine W.kla_makeFunctionHit (mg:=X.mg) hcl I.ok.glob hg hc (C.keeps I.bk) gP ht e hB fun ctv h' tk hkp sz=>?_
  have nf:H h'.objs.size=none:=I.hok.fresh sz
  have kp:∀b o,s.heap.get? b=some o->(h'.push (Ca X params body scope c3 ctv)).get? b=some o:=fun b o eb=>f9 _ (hkp b o eb)
  have I1:=I.laid (t':=tk) (o:=KN (Ca X params body scope c3 ctv)) kp sz (qv (q9 _ rfl))
  have hs1:∀b o,H b=some o->t6 H h'.objs.size (KN (Ca X params body scope c3 ctv)) b=some o:=fun b o eb=>by rw[B6 (v8 eb nf)];exact eb
  refine ⟨.ref h'.objs.size,_,I1,rfl,q h'.objs.size c3 ctv _ (fun b o _ eb=>hs1 b o eb) ⟨ps,hs1 _ _ hP,ht,fun pos' v ev=>?_⟩ nf f6 ⟨oc3,vs3,t3,hs1 _ _ y2,y3,y4⟩⟩
  obtain ⟨c4,oc4,vs4,t4,x1,x2,x3,x4⟩:=hk pos' v ev
  exact ⟨c4,oc4,vs4,t4,x1,hs1 _ _ x2,x3,x4⟩
noncomputable def qC (P:j9) (w:t9) (K:m9) (mg:Str->Option d6) (base:Heap) (N:List Str) (qual:Str) (scope:N3) (f:Addr) (cd:d6) (cl:List (Str × Addr)) (A:v7) (outer:List Env) (s:d7) (H:Hp) (E:XK):Cx where
 prog:=P
 w:=w
 K:=K
 mg:=mg
 base:=base
 A:=A.deeper (mQ qual scope s.heap.objs.size f cd cl)
 N:=N
 s₀:=s
 H₀:=H
 env:=mQ qual scope s.heap.objs.size f cd cl
 outer:=outer
 stack:=mQ qual scope s.heap.objs.size f cd cl::outer
 ex:=[]
 calm:=true
 fn:=fun _=>false
 pn:=[]
 xe:=fun e s'=>r0 (y6 P w) (A.deeper (mQ qual scope s.heap.objs.size f cd cl)) (DJ (mQ qual scope s.heap.objs.size f cd cl) e) (fun _ s''=>jG P w outer H s E e s'') (fun e' s''=>jG P w outer H s E e' s'') s'
section
variable {P:j9}{w:t9}{K:m9}{mg:Str->Option d6}{base:Heap}{N:List Str}{qual:Str}{scope:N3}{f:Addr}{cd:d6}{cl:List (Str × Addr)}{A:v7}{outer:List Env}{s₀:d7}{H₀:Hp}{E:XK}
theorem sg:jB (jG P w) (qC P w K mg base N qual scope f cd cl A outer s₀ H₀ E) E:=by
 intro pins σ H s e s' I h
 obtain ⟨a,C,H',rfl,F,hE⟩:=h
 obtain ⟨T,x,n1,n2,n3,n4⟩:=F.exc
 have I':=I.call' (ch:=[]) F.os F.un F.hok F.bare (fun b z=>absurd z (by simp))
 exact sD I' rfl rfl rfl x (cV I.base n1) (fun T' z=>by cases z;exact cV I.base n2) n3 (fun T' z=>by cases z;exact n4) fun s'' F'=>⟨a,C,H',rfl,F',hE⟩
end
noncomputable def CS (cl:List (Str × Addr)) (scope:N3) (N:List Str) (H:Hp) (σ:St):Prop:=σ.length=N.length /\
 ∀(i:Nat) (x:Str) (v:V),N[i]?=some x->σ[i]?=some (some v)->scope.names.lookup x=some .free/\∃c oc u,cl.lookup x=some c/\H c=some (KN oc)/\oc.data=.cell (some u)/\G8 v u
structure kG (cl:List (Str × Addr)) (scope:N3):Prop where
 kind:scope.kind=.function
 co:scope.isCoroutine=false
 gen:scope.isGenerator=false
 nocell:∀x∈scope.names,x.2≠.cell
 inj:∀x y c,cl.lookup x=some c->cl.lookup y=some c->x=y
 has:∀x,scope.names.lookup x=some .free->∃c,cl.lookup x=some c
theorem bX {α:Type}:∀{l:List (Str × α)}{x:Str}{c:α},l.lookup x=some c->∃y,(y,c)∈l/\y=x
 | [],_,_,h=>by cases h
 | (y,d)::r,x,c,h=>by
  by_cases z:(x == y)=true
  ·rw[E5,z] at h
   cases h
   exact ⟨y,i4,(beq_iff_eq.mp z).symm⟩
  ·rw[E5,Bool.eq_false_iff.mpr z] at h
   obtain ⟨y',m,e⟩:=bX h
   exact ⟨y',f7 _ m,e⟩
theorem kG.nc (S:kG cl scope) (h:scope.names.lookup x=some .cell):False:=by
 obtain ⟨y,m,_⟩:=bX h
 exact S.nocell _ m rfl
theorem fnL {f c:Addr}{qual:Str}{params:cq}{body:Expr}{pm ct:d6}{N:List Str}
  (S:kG cl scope)
  (hsp:∀vs H Q E,sp vs H Q E->vs=[]/\H f=some (KN (zY name qual params body scope cl pm c ct))/\yH qual H c/\vj cl H/\∃σ,CS cl scope N H σ /\
   ∀(A:v7) (outer:List Env) (s:d7),bg k (A.deeper (mQ qual scope s.heap.objs.size f (.ref c) cl))->∃t,PE (qC P w K mg base N qual scope f (.ref c) cl A outer s (bc cl H) (fun C d H'=>E C d (vD cl H H'))) body t/\t σ (bc cl H) (fun v H'=>Q v (vD cl H H'))):
  M0 P w K mg base (jG P w) (k+1) f (W.kla_fn name qual params body scope cl pm (.ref c) ct) [] sp:=by
 refine ⟨fun vs H Q E q=>by rw[(hsp vs H Q E q).1];rfl,fun A outer s H args us vs Q E hr e0 hb r hq=>?_⟩
 obtain ⟨rfl,hf,⟨oc,cvs,t,hc,hcd,hcv⟩,ck,σ,hσ,hrun⟩:=hsp _ _ _ _ hq
 have lim:s.heap.NoLimit:=e0.mod.nolimit.keeps fun b o e=>(e0.bs b o e).1
 have gf:=e0.hok.kn hf
 have gc:=e0.hok.kn hc
 refine W.kla_callFunE hr.depth gf rfl S.co S.gen rfl ⟨c,oc,cvs,t,rfl,gc,hcd,hcv⟩ (hb _ _ _ _ ?_)
 refine wpAny_newFunctionEnv S.nocell (fun x hx=>absurd hx (by simp)) (fun h1 hns hsb=>⟨lim.fresh _ hsb,?_⟩) S.kind
 show jK _ _ (.expr body (mQ qual scope s.heap.objs.size f (.ref c) cl)) _ _
 have hk1:∀b o,s.heap.get? b=some o->h1.get? b=some o:=fun b o e=>hsb.extBut b o (w9 (m7 e)) (f9 _ e)
 obtain ⟨tt,hbody,ht⟩:=hrun A outer s (hr.deeper _)
 have hfs:∀b∈kr outer,H b=none:=e0.frf
 have ok0:=BN e0.hok ck
 have noff:∀b,H b=none->bc cl H b=none:=fun b n=>by
  by_cases z:gq cl b
  ·exact fM z
  ·rw[M9 z];exact n
 have nL:∀x d,cl.lookup x=some d->d<s.heap.objs.size/\∃oc v,s.heap.get? d=some oc/\oc.data=.cell v:=fun x d e=>by
  obtain ⟨oc,v,q,dd⟩:=ck x d e
  have g:=e0.hok.kn q
  exact ⟨m7 g,oc,v,g,dd⟩
 have I:C6 (qC P w K mg base N qual scope f (.ref c) cl A outer s (bc cl H) (fun C d H'=>E C d (vD cl H H'))) [] σ (bc cl H) { s with heap:=h1,toks:=s.toks+([]:List (Str × d6)).length }:=by
  have noA:∀b:Addr,b ∉ (qC P w K mg base N qual scope f (.ref c) cl A outer s (bc cl H) (fun C d H'=>E C d (vD cl H H'))).ex:=fun b z=>absurd (show b∈([]:List Addr) from z) (by simp)
  refine ⟨⟨e0.mod,S.kind,rfl,rfl,i9 _,S.inj,fun y hy=>?_,fun y d hy _=>absurd (show false=true from hy) (by simp),fun _=>hr.hd,xt e0.frames,.inr ⟨rfl,rfl⟩,fun b z=>absurd z (noA b),fun b o e=>⟨(e0.bs b o e).1,noff b (e0.bs b o e).2⟩,e0.bsz,fun b _ _=>noA b,fun b z=>absurd z (noA b),e0.funs,fun b hb=>noff b (e0.frf b hb)⟩,
   rfl,e0.bare,Un.kept hk1,⟨_,hns,fun i y v h1' h2 h3=>?_⟩,fun y d h=>?_,noff _ (e0.hok.fresh (i9 _)),fun y d h=>fM ⟨y,h⟩,fun p hp=>absurd (show p∈([]:List (Addr × Obj)) from hp) (by simp),ok0.kept hk1,hσ.1⟩
  ·have hy':scope.names.lookup y=some .cell ∨ scope.names.lookup y=some .free:=hy
   rcases hy' with hy'|hy'
   ·exact (S.nc hy').elim
   ·exact S.has y hy'
  ·obtain ⟨kf,d,oc',u,e1,e2,e3,rv⟩:=hσ.2 i y v h1' h2
   exact ⟨u,rv,.inr ⟨.inr kf,d,e1,oc',hk1 _ _ (e0.hok.kn e2),e3⟩⟩
  ·obtain ⟨_,oc',v,g,dd⟩:=nL y d h
   exact ⟨v,oc',hk1 _ _ g,dd⟩
 refine W.kla_codeExpr (F0 (hbody [] _ σ (bc cl H) _ I ht) (fun u s' ⟨v,H',J,rv,q⟩=>?_) fun e s' hx=>?_)
 ·exact ⟨v,vD cl H H',J.os,J.bare,Fs J.base e0.hok ck hfs,Ck J.base e0.hok J.hok ck hfs,rv,q⟩
 ·have conv:∀e s'',jG P w outer (bc cl H) s (fun C d H'=>E C d (vD cl H H')) e s''->jG P w outer H s E e s'':=fun e s'' h=>by
   obtain ⟨a,C,H',rfl,F,hE⟩:=h
   obtain ⟨T,x,n1,n2,n3,n4⟩:=F.exc
   have nC:∀b,s.heap.get? b=none->¬ gq cl b:=fun b n ⟨x,z⟩=>by
    obtain ⟨_,oc',v,g,_⟩:=nL x b z
    rw[n] at g;cases g
   exact ⟨a,C,vD cl H H',rfl,⟨F.os,F.bare,Fs F.un e0.hok ck hfs,Ck F.un e0.hok F.hok ck hfs,T,x,n1,n2,by rw[bM (nC a n1)];exact n3,by rw[bM (nC T n2)];exact n4⟩,hE⟩
  exact F0 hx (fun _ s'' h=>conv e s'' h) fun e' s'' h=>conv e' s'' h
structure oG (X:Cx) (σ:St) (H Hf:Hp):Prop where
 out:∀b,¬ gq X.env.cells b->Hf b=H b
 none:∀b,gq X.env.cells b->H b=none
 cell:vj X.env.cells Hf
 val:∀(i:Nat) (x:Str) (v:V),X.N[i]?=some x->σ[i]?=some (some v)->(X.env.kindOf x=some .cell ∨ X.env.kindOf x=some .free)->∃c oc u,X.env.cells.lookup x=some c/\Hf c=some (KN oc)/\oc.data=.cell (some u)/\G8 v u
open Classical in
noncomputable def jz (cl:List (Str × Addr)) (h:Heap) (H:Hp):Hp:=fun b=>if gq cl b then (h.get? b).map (fun o=>KN o) else H b
theorem C6.frz {X:Cx}{pins:List (Addr × Obj)}{σ:St}{H:Hp}{s:d7} (I:C6 X pins σ H s):oG X σ H (jz X.env.cells s.heap H)/\bh X.prog X.w (jz X.env.cells s.heap H) s.heap:=by
 have hin:∀b,gq X.env.cells b->∃o v,s.heap.get? b=some o/\o.data=.cell v/\jz X.env.cells s.heap H b=some (KN o):=fun b z=>by
  obtain ⟨x,zx⟩:=z
  obtain ⟨v,o,e,d⟩:=I.cell x b zx
  refine ⟨o,v,e,d,?_⟩
  unfold jz
  rw[if_pos ⟨x,zx⟩,e]
  rfl
 have hout:∀b,¬ gq X.env.cells b->jz X.env.cells s.heap H b=H b:=fun b z=>by unfold jz;rw[if_neg z]
 have hno:∀b,gq X.env.cells b->H b=none:=fun b ⟨x,z⟩=>I.freeC x b z
 refine ⟨⟨hout,hno,fun x c z=>?_,fun i x v h1 h2 h3=>?_⟩,fun b o e=>?_⟩
 ·obtain ⟨o,v,_,d,q⟩:=hin c ⟨x,z⟩
  exact ⟨o,v,q,d⟩
 ·obtain ⟨m,hn,hl⟩:=I.loc
  obtain ⟨u,r,lk⟩:=hl i x v h1 h2 (by rcases h3 with h3|h3;exact .inr (.inl h3);exact .inr (.inr h3))
  rcases lk with ⟨z,_⟩|⟨_,c,e,oc,g,d⟩
  ·rw[z] at h3
   rcases h3 with h3|h3 <;> cases h3
  ·obtain ⟨o,v',g',d',q⟩:=hin c ⟨x,e⟩
   rw[g] at g';cases g'
   exact ⟨c,oc,u,e,q,d,r⟩
 ·by_cases z:gq X.env.cells b
  ·obtain ⟨o',v,g,d,q⟩:=hin b z
   rw[q] at e;cases e
   exact qv g
  ·rw[hout b z] at e
   refine (I.hok b o e).stay (fun _ _ _ q=>q) (fun c q=>?_) fun c xs q=>?_
   ·rw[hout c (fun zc=>by rw[hno c zc] at q;cases q)];exact q
   ·rw[hout c (fun zc=>by rw[hno c zc] at q;cases q)];exact q
noncomputable def AF (X:Cx) (sp:Sp) (t:TA):TE:=fun σ H Q=>t σ H fun vs H1=>∀Hf,oG X σ H1 Hf->sp vs Hf (fun v H'=>Q v (bc X.env.cells H')) E0
variable {e:Expr}{es:List Expr}
theorem Bz {f:Addr}{fd:C4}{p:Pos}{t:TA} (F:M0 X.prog X.w X.K X.mg X.base cH k f fd ps sp) (hr:bg k X.A) (hg:Gl X x) (hm:X.mg x=some (.ref f)) (hk:ba X.K (.ref f)=true) (hb:jh X.K fd ps [])
  (hfn:∀y,X.fn y=true:=by intro y;rfl)
  (ha:PA X (e::es) t) (hdb:(x == ("__debug__":Str))=false:=by decide) (he:w6 (e::es) X.env=(false,eval e X.env)::w6 es X.env:=by rfl) (hpl:(S9 pos (w6 es X.env)).any (·.1)=false:=by rfl):
  PE X (.Call (.Name x p) (e::es) [] pos) (AF X sp t):=by
 intro pins s σ H Q I h
 refine Y9 (kc I hg hm ?_ hdb)
 refine W.callWith_K (h₀:=X.base) I.ok.mod.kin hk (Q9 (ha pos pins s σ H _ I h) fun us s1 ⟨vs,H1,I1,r,q⟩=>⟨I1.kIn,?_⟩) he hpl
 obtain ⟨fz,hokf⟩:=I1.frz
 have q':=q _ fz
 have r2:F2 (vs++[]) (us++[]):=r.append .nil
 have hl:(us++[]).length=ps.length:=by rw[<- r2.length,T8];exact F.len _ _ _ _ q'
 have e0:=I1.env0
 have nof:∀b o,X.base.get? b=some o->¬ gq X.env.cells b:=fun b o eb ⟨y,z⟩=>absurd (B4 (m7 eb) I.ok.bsz) (FY (I.ok.cab y b (hfn y) z))
 have hfr:∀b∈kr X.stack,¬ gq X.env.cells b:=fun b hb ⟨y,z⟩=>by
  rcases List.mem_cons.mp (I1.stkSub b hb) with e|hb
  ·exact I1.cne y b z e
  ·obtain ⟨_,o,ho,_⟩:=I1.ok.funs.mem hb
   exact absurd (m7 ho) (FY (I.ok.cab y b (hfn y) z))
 have e1:CU X.prog X.w X.K X.mg X.base X.A X.stack s1 (jz X.env.cells s1.heap H1):=⟨e0.frames,e0.mod,fun b o eb=>⟨(e0.bs b o eb).1,by rw[fz.out b (nof b o eb)];exact (e0.bs b o eb).2⟩,e0.bsz,e0.funs,fun b hb=>by rw[fz.out b (hfr b hb)];exact e0.frf b hb,hokf,e0.bare⟩
 refine oU (jJ (F.run X.A X.stack s1 _ ⟨us,[]⟩ us vs _ E0 hr e1 (by have z:=hb s1 us I1.kIn hl;rw[T8] at z;exact z) r q') fun res s' hq=>?_)
 cases res with
 | error e=>exact E2 hq
 | ok fl =>
  cases fl with
  | ret u =>
   obtain ⟨v,H',os,bare,un,hok,rv,qq⟩:=hq
   obtain ⟨un',hok'⟩:=Ge (H:=H1) un hokf hok fz.cell fz.none fz.out
   exact I1.after ⟨v,_,os,bare,un',hok',rv,qq⟩
  | next=>exact E2 hq
  | brk=>exact E2 hq
  | cont=>exact E2 hq
noncomputable abbrev TJ:=St->Hp->(Hp->Prop)->Prop
noncomputable def PJ (X:Cx) (es:List Expr) (n:Nat) (t:TJ):Prop :=
 ∀(acc:Str),acc.length<=n->∀(pins:List (Addr × Obj)) (s:d7) (σ:St) (H:Hp) (Q:Hp->Prop),C6 X pins σ H s->t σ H Q ->
  r0 (y6 X.prog X.w) X.A (KW acc (evalEach es X.env)) (fun u s'=>∃z H',C6 X pins σ H' s'/\G8 (.str z) u/\Q H') X.xe s
section
variable {X:Cx}{es:List Expr}{n:Nat}{t:TJ}
theorem Bp (h:n<=i7:=by decide):PJ X [] n (fun _ H Q=>Q H):=by
 intro acc ha pins s σ H Q I q
 exact joinParts_nil (s:=s) ⟨acc,H,I.tok _,⟨_,rfl⟩,q⟩ (m8 ha h)
variable {pos:Pos}
theorem rS {x:Str}{j:Nat}(h:PJ X es (n+x.length) t) (hz:n+x.length<=i7:=by decide):PJ X (.Constant (.str x) j pos::es) n t:=by
 intro acc ha pins s σ H Q I q
 show r0 _ _ (KW acc (eval (.Constant (.str x) j pos) X.env::evalEach es X.env)) _ _ _
 refine joinParts_cons (Az ⟨?_,?_⟩)
 ·rw[oO];lia
 ·exact h (acc++x) (by rw[oO];lia) pins _ σ H Q (I.tok _) q
theorem wu {e:Expr}{te:TE}(he:PE X e te) (h:PJ X es (n+100) t) (hz:n+100<=i7:=by decide):
  PJ X (.FormattedValue e (-1) none pos::es) n (fun σ H Q=>te σ H fun v H1=>∃i:Int,v=.int i/\i.natAbs.log2<1920/\(toString i:Str).length<=100/\t σ H1 Q):=by
 intro acc ha pins s σ H Q I q
 show r0 _ _ (KW acc (eval (.FormattedValue e (-1) none pos) X.env::evalEach es X.env)) _ _ _
 refine joinParts_cons (FormattedValue_plain (Q9 (he pins s σ H _ I q) fun u s1 ⟨v,H1,I1,r,i,ev,hl,hz',q1⟩=>?_))
 subst ev
 obtain ⟨tk,rfl⟩:=r
 refine formatField_int_small hl ⟨?_,?_⟩
 ·rw[oO];lia
 ·exact h _ (by rw[oO];lia) pins _ σ H1 Q (I1.tok _) q1
theorem xO {v1 v2:Expr}{jw:List Expr}(h:PJ X (v1::v2::jw) 0 t):PE X (.JoinedStr (v1::v2::jw) pos) (fun σ H Q=>t σ H fun H1=>∀z,Q (.str z) H1):=by
 intro pins s σ H Q I q
 exact JoinedStr_many (Q9 (h Str.empty (i9 _) pins s σ H _ I q) fun u s1 ⟨z,H1,I1,r,q1⟩=>⟨.str z,H1,I1,r,q1 z⟩)
end
theorem wA :jB (jG P w) X E0:=fun _ _ _ _ _ _ _ h=>by
 obtain ⟨_,_,_,_,_,z⟩:=h
 exact z.elim
section
variable {P:j9}{w:t9}{K:m9}{mg:Str->Option d6}{base:Heap}
theorem aY.okX {x qual:Str}{st:Stmt}{f:Addr}{fd:C4}{N ps:List Str}{k:Nat}{sp:Sp} (F:aY K x qual st f fd) (S:C3 N ps (v9 st)) (len:∀vs H Q E,sp vs H Q E->vs.length=ps.length)
  (hbody:∀(cdv:d6) (A:v7) (outer:List Env) (s:d7) (H:Hp) (vs:List V) (Q:VK) (E:XK),bg k (A.deeper (W1 qual (v9 st) s.heap.objs.size f cdv))->sp vs H Q E ->
   ∃t,pM (eX (jG P w) P w K mg base N qual (v9 st) f cdv A outer s H E) (Z3 st) t/\t { nx:=fun _ H'=>Q .non H',rt:=Q } (start N vs) H):M0 P w K mg base (jG P w) (k+1) f fd ps sp:=by
 obtain ⟨oc,od,kV,doc,pm,an,cdv,ct,osl,rfl,lk,hcd⟩:=F.ex
 exact Cs lk hcd S len fun A outer s H vs Q E hr hsp=>hbody cdv A outer s H vs Q E hr hsp
theorem aY.okC {x qual:Str}{st:Stmt}{f:Addr}{fd:C4}{N ps:List Str}{k:Nat}{sp:Sp} (F:aY K x qual st f fd) (S:C3 N ps (v9 st)) (len:∀vs H Q E,sp vs H Q E->vs.length=ps.length)
  (hbody:∀(cdv:d6) (A:v7) (outer:List Env) (s:d7) (H:Hp) (vs:List V) (Q:VK) (E:XK),fd.code=cdv->bg k (A.deeper (W1 qual (v9 st) s.heap.objs.size f cdv))->sp vs H Q E ->
   ∃t,pM (eX cH P w K mg base N qual (v9 st) f cdv A outer s H E).nox (Z3 st) t/\t { nx:=fun _ H'=>Q .non H',rt:=Q } (start N vs) H):M0 P w K mg base cH (k+1) f fd ps sp:=by
 obtain ⟨oc,od,kV,doc,pm,an,cdv,ct,osl,rfl,lk,hcd⟩:=F.ex
 refine Cs lk hcd S len fun A outer s H vs Q E hr hsp=>?_
 obtain ⟨t,h,q⟩:=hbody cdv A outer s H vs Q E rfl hr hsp
 exact ⟨t,h.nox,q⟩
end
section
variable {P:j9}{w:t9}{K:m9}{mg:Str->Option d6}{base:Heap}{N:List Str}{qual:Str}{scope:N3}{f:Addr}{cd:d6}{A:v7}{outer:List Env}{s₀:d7}{H₀:Hp}{E:XK}
theorem iI {x:Str}{C:Addr}{e:Expr}{te:TE}{np cpos pos:Pos} (hm:mg x=some (.ref C)) (hc:XC K C) (he:PE (eX (jG P w) P w K mg base N qual scope f cd A outer s₀ H₀ E) e te)
  (hmono:∀σ H (Q Q':VK),(∀v H1,Q v H1->Q' v H1)->te σ H Q->te σ H Q')
  (hg:Gl (eX (jG P w) P w K mg base N qual scope f cd A outer s₀ H₀ E) x:=by rfl)
  (hdb:(x == ("__debug__":Str))=false:=by decide)
  (hst:w6 [e] (W1 qual scope s₀.heap.objs.size f cd)=(false,eval e (W1 qual scope s₀.heap.objs.size f cd))::w6 [] (W1 qual scope s₀.heap.objs.size f cd):=by rfl):
  PS (eX (jG P w) P w K mg base N qual scope f cd A outer s₀ H₀ E) (.Raise (some (.Call (.Name x np) [e] [] cpos)) none pos) (fun _ σ H=>te σ H fun _ H1=>E (.ref C) none H1):=by
 have h:=Bo (E:=E) (pos:=pos) (np:=np) (cpos:=cpos) (t:=bV te jQ) hg hm hc (b7 he d8 (hs:=hst)) (i9 _) hdb hst rfl (fun σ H Q q=>hmono _ _ _ _ (fun v H1 z=>⟨by show 1<=i7;decide,z⟩) q)
 exact h
end
noncomputable def CP (ts:List Addr) (H:Hp):Prop:=(∀b,H b=none ∨ (∃o xs,H b=some (.frz o (.lst xs))) ∨ (b∈ts/\H b=some (.tbl #[])))/\∀T∈ts,H T=some (.tbl #[])
theorem zw {mb:Str->Option d6}{fa:Addr}{fd:C4}{s1:d7}{vs:List d6}{ts:List Addr}
  (KX:K.In s1.heap) (hns:s1.heap.Ns u5 mg) (hb:s1.heap.Ns jL mb) (hbb:∀x:Str,x≠"__name__"->mb x=V4 x) (hlim:s1.heap.NoLimit) (hg:s1.gens=#[])
  (hbm:∃bm ob,mg "__builtins__"=some (.ref bm)/\bm≠jL/\s1.heap.get? bm=some ob/\ob.cls=.type "module"/\ob.dict=some jL/\ob.data=.plain)
  (ha:s1.heap.get? a=some { cls:=.type "list",data:=.seq vs.toArray }) (hi:fj vs ns) (hl:ns.length<=i7) (hr:bg k qV)
  (tabs:∀T∈ts,s1.heap.get? T=some (DM #[])/\isCodeTable s1.heap T/\K.lookup T=none)
  (F:∀base:Heap,K.In base->base.Ns u5 mg->(∀T∈ts,base.BuiltinsAt mg T)->M0 P w K mg base cH k fa fd [x] sp) (hbind:∀(s:d7) (u:d6),rm s fd ⟨[u],[]⟩ [(x,u)])
  (hsp:∀H:Hp,CP ts H->dC K H a (ns.map V.int)->sp [.ref a] H (fun v _=>v=.bl true) fun _ _ _=>False):
  jK (y6 P w) qV (.call (.ref fa) ⟨[.ref a],[]⟩) (fun r s'=>r=.ok (.ret (.bool true))/\OldK s1.heap s'.heap/\s'.os=s1.os/\iA s'.gens) s1:=by
 have rv:=pT hi
 have lenV:=hi.length
 have aT:a ∉ ts:=fun z=>by
  have e:=(tabs a z).1
  rw[ha] at e;cases e
 have core:∀H:Hp,CP ts H->dC K H a (ns.map V.int)->bh P w H s1.heap->(∀b,H b≠none->b=a ∨ b∈ts)->(H a≠none->K.lookup a=none) ->
   jK (y6 P w) qV (.call (.ref fa) ⟨[.ref a],[]⟩) (fun r s'=>r=.ok (.ret (.bool true))/\OldK s1.heap s'.heap/\s'.os=s1.os/\iA s'.gens) s1:=by
  intro H hO hS hok hA hK
  have base_of:∀{b:Addr}{o:Obj},s1.heap.get? b=some o->H b=none->(pI s1.heap H).get? b=some o:=fun e n=>Cm e n
  have noB:∀{b:Addr}{o:Obj},s1.heap.get? b=some o->(∀xs n,o.data≠.seq xs n)->(∀xs,o.data≠.fields xs)->H b=none:=fun {b o} e d1 d2=>by
   cases q:H b with
   | none=>rfl
   | some u =>
    rcases hA b (by rw[q];simp) with e'|e'
    ·subst e'
     rw[ha] at e;cases e
     exact absurd rfl (d1 _ _)
    ·rw[(tabs b e').1] at e;cases e
     exact absurd rfl (d2 _)
  have noA:∀{b:Addr}{o:Obj}{es:Array dJ}{ep:Nat},s1.heap.get? b=some o->o.data=.dict es ep->H b=none:=fun {b o es ep} e d =>
   noB e (fun xs n z=>by rw[d] at z;cases z) (fun xs z=>by rw[d] at z;cases z)
  have nsK:∀{b:Addr}{m:Str->Option d6},s1.heap.Ns b m->(pI s1.heap H).Ns b m:=fun {b m} ⟨o,es,ep,e,d,r⟩=>⟨o,es,ep,base_of e (noA e d),d,r⟩
  have hKb:K.In (pI s1.heap H):=fun b o e=>base_of (KX b o e) (by
   cases q:H b with
   | none=>rfl
   | some u =>
    rcases hA b (by rw[q];simp) with e'|e'
    ·subst e'
     rw[hK (by rw[q];simp)] at e;cases e
    ·rw[(tabs b e').2.2] at e;cases e)
  have hM:Mod K mg (pI s1.heap H):=⟨hKb,nsK hns,⟨mb,nsK hb,hbb⟩,let ⟨mc,h1,h2⟩:=hlim;⟨mc,nsK h1,h2⟩⟩
  have hBM:∀T∈ts,(pI s1.heap H).BuiltinsAt mg T:=fun T hT=>by
   obtain ⟨bm,ob,b1,b2,b3,b4,b5,b6⟩:=hbm
   refine ⟨bm,ob,b1,b2,fun z=>?_,fun z=>?_,base_of b3 (noB b3 (fun xs n z=>by rw[b6] at z;cases z) (fun xs z=>by rw[b6] at z;cases z)),b4,b5,b6⟩
   ·obtain ⟨o,es,ep,e,d,_⟩:=hns
    rw[<- z,b3] at e;cases e
    rw[b6] at d;cases d
   ·rw[z,(tabs T hT).1] at b3;cases b3;cases b4
  have e0:CU P w K mg (pI s1.heap H) qV [] s1 H:=⟨rfl,hM,fun b o e=>EB e,Nat.le_of_eq (zF _ _),trivial,fun b hb=>absurd (show b∈([]:List Addr) from hb) (by simp),hok,.of_eq hg⟩
  refine jJ ((F _ hKb (nsK hns) hBM).run qV [] s1 H ⟨[.ref a],[]⟩ [.ref a] [.ref a] _ _ hr e0 (hbind s1 (.ref a)) (.cons rfl .nil) (hsp H hO hS)) fun r s' h=>?_
  cases r with
  | error e=>exact E2 h
  | ok fl =>
   cases fl with
   | next=>exact E2 h
   | brk=>exact E2 h
   | cont=>exact E2 h
   | ret u =>
    obtain ⟨v,H',os,bare,un,hok',r',q⟩:=h
    have q':v=.bl true:=q
    subst q'
    obtain rfl:u=W7 true:=r'
    refine ⟨rfl,⟨fun b o e=>?_,fun b o e=>un.there b o e (by simp)⟩,os,bare⟩
    cases q:H b with
    | none=>exact .inl (un.keep b o e q (by intro z;exact absurd (show b∈([]:List Addr) from z) (by simp)) (by simp))
    | some u =>
     rcases hO.1 b with z|⟨ob,xs,z⟩|⟨hT,z⟩
     ·rw[q] at z;cases z
     ·have z2:=un.frzs b ob _ z
      obtain ⟨e1,_⟩:=hok b _ z
      obtain ⟨e2,_⟩:=hok' b _ z2
      rw[e] at e1;cases e1
      exact .inl e2
     ·obtain ⟨more,z2⟩:=un.tbls b _ z
      have e1:s1.heap.get? b=some { cls:=.none,data:=.fields #[] }:=hok b _ z
      have e2:s'.heap.get? b=some { cls:=.none,data:=.fields (#[]++more) }:=hok' b _ z2
      rw[e] at e1;cases e1
      exact .inr (.inl ⟨(tabs b hT).2.1,rfl,#[],more,rfl,e2⟩)
 have tabOk:∀(H:Hp) (T:Addr),T∈ts->N9 P w H s1.heap T (.tbl #[]):=fun H T hT=>(tabs T hT).1
 cases hk:K.lookup a with
 | some o =>
  have e:=KX a o hk
  rw[ha] at e
  cases e
  refine core (fun b=>if b∈ts then some (.tbl #[]) else none) ⟨fun b=>?_,fun T hT=>if_pos hT⟩ (.inr ⟨_,vs.toArray,_,hk,rfl,rfl,rfl,by rw[n6,lenV];exact hl,by simpa using rv⟩) (fun b u z=>?_) (fun b z=>?_) fun z=>absurd (if_neg aT) z
  ·by_cases hb:b∈ts
   ·exact .inr (.inr ⟨hb,if_pos hb⟩)
   ·exact .inl (if_neg hb)
  ·by_cases hb:b∈ts
   ·have z':=(if_pos hb).symm.trans z
    cases z'
    exact tabOk _ b hb
   ·have z':=(if_neg hb).symm.trans z
    cases z'
  ·by_cases hb:b∈ts
   ·exact .inr hb
   ·exact absurd (if_neg hb) z
 | none =>
  refine core (fun b=>if b=a then some (.frz { cls:=.type "list",data:=.seq vs.toArray } (.lst (ns.map V.int))) else if b∈ts then some (.tbl #[]) else none) ⟨fun b=>?_,fun T hT=>?_⟩ (.inl (.inr ⟨{ cls:=.type "list",data:=.seq vs.toArray },if_pos rfl⟩)) (fun b u z=>?_) (fun b z=>?_) fun _=>hk
  ·by_cases hb:b=a
   ·exact .inr (.inl ⟨_,_,if_pos hb⟩)
   ·by_cases hc:b∈ts
    ·exact .inr (.inr ⟨hc,(if_neg hb).trans (if_pos hc)⟩)
    ·exact .inl ((if_neg hb).trans (if_neg hc))
  ·exact (if_neg (fun z=>aT (by rw[<- z];exact hT))).trans (if_pos hT)
  ·by_cases hb:b=a
   ·have z':=(if_pos hb).symm.trans z
    cases z'
    subst hb
    exact ⟨ha,by rw[b9];exact hl,vs,_,rv,ha⟩
   ·have z':=(if_neg hb).symm.trans z
    by_cases hc:b∈ts
    ·have z2:=(if_pos hc).symm.trans z'
     cases z2
     exact tabOk _ b hc
    ·have z2:=(if_neg hc).symm.trans z'
     cases z2
  ·by_cases hb:b=a
   ·exact .inl hb
   ·by_cases hc:b∈ts
    ·exact .inr hc
    ·exact absurd ((if_neg hb).trans (if_neg hc)) z
theorem AD {l:IW}{q:j9}{loose:List Str}{XP:(Str->Option d6)->Heap->Prop}{YP:t9->Heap->Prop}{d:DefRec}{K:Params->m9}{sp:t9->Sp}{ts:List Addr}
  (hn:l.most=some n) (hn2:n<=i7) (hdf:d.params.defaults=[]) (hr:bg k qV)
  (hY:∀(w:t9) (h:Heap),YP w h->(K w.params).In h) (hT:∀(w:t9) (h:Heap),YP w h->∀T∈ts,h.get? T=some (DM #[]))
  (F:∀(w:t9) (mg:Str->Option d6) (fa:Addr) (h:Heap),(K w.params).In h->h.Ns u5 mg->mg d.name=some (.ref fa) ->
   ∃fd:C4,(∀(s:d7) (u:d6),rm s fd ⟨[u],[]⟩ [(x,u)])/\(∀T∈ts,(K w.params).lookup T=none/\∃c,jm (K w.params) c T=true) /\
    ∀base:Heap,(K w.params).In base->base.Ns u5 mg->(∀T∈ts,base.BuiltinsAt mg T)->M0 l.prog w (K w.params) mg base cH k fa fd [x] (sp w))
  (hsp:∀(w:t9) (H:Hp) (a:Addr) (ns:List Int),ns.length<=n->CP ts H->dC (K w.params) H a (ns.map V.int)->sp w [.ref a] H (fun v _=>v=.bl true) fun _ _ _=>False):
  W.WalkO q loose XP YP l.row.toRowW d [] (fun f vs=>Ak f vs):=by
 refine Att.vf hn hdf fun w s₀ s₁ mg mb fa o pm cd doc a vs ns G Y ho hd hcd hmg hobj hints hlen hg=>?_
 have KX:=hY w _ Y
 obtain ⟨fd,hb,ht,hF⟩:=F w mg fa _ KX G.T.g hmg
 refine zw KX G.T.g G.T.b G.T.builtins G.T.nolimit hg G.T.bmain hobj hints (m8 hlen hn2) hr (fun T hm=>?_) hF hb (fun H hO hS=>hsp w H a ns hlen hO hS)
 obtain ⟨h1,c,h2⟩:=ht T hm
 have hP:=hT w _ Y T hm
 exact ⟨hP,((W.codeHd_of_K KX h2).tab hP).isCodeTable,h1⟩
structure eZ (P:j9) (w:t9) (K:m9) (mg:Str->Option d6) (base:Heap) (k:Nat) (x:Str) (ps:List Str) (sp:Sp):Prop where
 ex:∃f fd,mg x=some (.ref f)/\ba K (.ref f)=true/\jh K fd ps []/\M0 P w K mg base (jG P w) k f fd ps sp
theorem eZ.up {j:Nat}(C:eZ P w K mg base j x ps sp) (h:j<=k):eZ P w K mg base k x ps sp :=
 let ⟨f,fd,a,b,c,d⟩:=C.ex;⟨f,fd,a,b,c,d.mono h⟩
noncomputable def tCx (sp:Sp) (E:XK) (t:TA):TE:=fun σ H Q=>t σ H fun vs H1=>sp vs H1 Q E
section
variable {X:Cx}{k:Nat}{x:Str}{ps:List Str}{sp:Sp}{p pos:Pos}{e:Expr}{es:List Expr}{t:TA}{E:XK}
theorem aj (C:eZ X.prog X.w X.K X.mg X.base k x ps sp) (hr:bg k X.A) (hg:Gl X x) (hx:jB (jG X.prog X.w) X E) (ha:PA X (e::es) t)
  (hdb:(x == ("__debug__":Str))=false:=by decide) (he:w6 (e::es) X.env=(false,eval e X.env)::w6 es X.env:=by rfl) (hpl:(S9 pos (w6 es X.env)).any (·.1)=false:=by rfl):
  PE X (.Call (.Name x p) (e::es) [] pos) (tCx sp E t):=by
 obtain ⟨f,fd,hm,hk,hb,F⟩:=C.ex
 have h:=xP (x:=x) (p:=p) (pos:=pos) F hr hg hm hk hb .nil hx ha hdb he hpl
 have e:AG sp [] E t=tCx sp E t:=by
  funext σ H Q
  show t σ H (fun vs H1=>sp (vs++[]) H1 Q E)=t σ H (fun vs H1=>sp vs H1 Q E)
  congr 1
  funext vs H1
  rw[T8]
 rw[<- e];exact h
end
structure xk (K:m9) (mg:Str->Option d6) (c:Nat->Addr) (B:Addr):Prop where
 e0:mg "NoUrn"=some (.ref (c 0))
 e1:mg "NoRule"=some (.ref (c 1))
 e2:mg "NoKind"=some (.ref (c 2))
 e3:mg "NoBall"=some (.ref (c 3))
 e4:mg "NoDraws"=some (.ref (c 4))
 e5:mg "NoNumber"=some (.ref (c 5))
 e6:mg "NotEven"=some (.ref (c 6))
 e7:mg "NoCounts"=some (.ref (c 7))
 e8:mg "NotAlike"=some (.ref (c 8))
 e9:mg "BadNote"=some (.ref (c 9))
 eb:mg "UrnError"=some (.ref B)
 xc:∀i,i<10->XC K (c i)
 xi:∀i,i<10->XI K (c i)
 sub:∀i,i<10->vM K (.ref (c i)) (.ref B)=some true
 bb:lH K (.ref B) (.type "BaseException")=some true
 one:∀i j,i<10->j<10->aZ K (.ref (c i)) (.ref (c j))=some (decide (i=j))
 val:∀i,i<10->aZ K (.ref (c i)) (.type "ValueError")=some true
noncomputable def Sm (i:Int):Prop:=i.natAbs.log2<1920/\(toString i:Str).length<=100
section
variable {X:Cx}{pins:List (Addr × Obj)}{σ:St}{H:Hp}{s:d7}
theorem C6.bigger (I:C6 X pins σ H s):W0<s.heap.objs.size:=by
 obtain ⟨mc,⟨o,es,ep,e,_⟩,_⟩:=I.nolimit
 exact X7 (by decide) (m7 e)
noncomputable def Jj:TE:=fun _ H Q=>∀p,H p=none->Q (.ref p) (t6 H p (.dK []))
theorem Em {pos:Pos}:PE X (.Dict [] [] pos) Jj:=fun pins s σ H Q I h =>
 KR ⟨.ref s.heap.objs.size,_,I.laid (a:=s.heap.objs.size) (o:=.dK []) (t':=s.toks) (fun _ _ q=>f9 _ q) (i9 _)
  ⟨u9 _,beq_eq_false_iff_ne.mpr (M3 (w9 I.bigger)),[],.nil,xn s.heap⟩,rfl,h _ (I.hok.fresh (i9 _))⟩
noncomputable def W4:R2:=fun x y H Q=>∃(a b:Addr) (xs ys:List V),x=.ref a/\y=.ref b/\H a=some (.tup xs)/\H b=some (.tup ys)/\xs.length+ys.length<=1000/\∀p H',j7 H H'->H' p=some (.tup (xs++ys))->Q (.ref p) H'
theorem cf:gK X (R1 .Add) W4:=by
 intro pins s σ H x y v u Q I rx ry h
 obtain ⟨a,b,xs,ys,rfl,rfl,ha,hb,hz,q⟩:=h
 refine Et pins s σ H _ _ v u Q I rx ry ⟨a,b,xs,ys,rfl,rfl,.of ha,.of hb,m8 hz (by decide),fun e=>?_,fun _ e=>?_,fun _ _ p hp=>?_⟩
 ·subst e
  exact q b H (j7.refl H) hb
 ·subst e
  exact q a H (j7.refl H) (by rw[T8];exact ha)
 ·exact q p _ (j7.new hp) f6
end
section
variable {K:m9}{σ0:St}{te:TE}{H:Hp}{F:List V->Hp->Prop}
theorem vd {a:Addr}{xs:List V} (hn:xs.length<=i7) (Pv:Nat->List V->Hp->Prop) (h0:Pv 0 [] H) (hl:∀i ys H,Pv i ys H->ys.length=i) (hq:∀i ys H,i<=xs.length->Pv i ys H->dC K H a xs) (hσ:σ0[0]?=some none)
  (hs:∀i ys H x,xs[i]?=some x->Pv i ys H->te (σ0.set 0 (some x)) H fun y H'=>Pv (i+1) (ys++[y]) H') (hd:∀ys H,Pv xs.length ys H->F ys H):Fe (IM K a) σ0 (N7 0) Q2 te H F:=by
 refine ⟨fun i m ys H=>m=xs.length - i/\i<=xs.length/\Pv i ys H,⟨xs.length,by simp,u9 _,h0⟩,?_⟩
 rintro i m ys H2 ⟨rfl,hi,p⟩
 have q:=hq i ys H2 hi p
 refine ⟨by rw[hl i ys H2 p];lia,?_⟩
 by_cases hlt:i<xs.length
 ·refine .inr ⟨⟨xs,xs[i],q,by simp[hlt]⟩,fun y H'=>Pv (i+1) (ys++[y]) H',fun _=>False,fun y H' q=>⟨xs.length - (i+1),by lia,rfl,hlt,q⟩,fun _ q=>q.elim,fun x H3 y=>?_⟩
  obtain ⟨rfl,y⟩:=y
  exact ⟨Wk.set (.inl hσ),hs i ys _ x (y xs q) p⟩
 ·have e:i=xs.length:=by lia
  subst e
  exact .inl ⟨⟨xs,q,i9 _⟩,hd ys H2 p⟩
end
section
variable {X:Cx}{es:List Expr}{te:TE}{t:TA}
theorem ja {c j p} (ha:PE X (.Constant c j p) te) (hr:PA X es t):PA X (.Constant c j p::es) (bV te t):=b7 ha hr rfl
theorem pa_b {a op b p} (ha:PE X (.BinOp a op b p) te) (hr:PA X es t):PA X (.BinOp a op b p::es) (bV te t):=b7 ha hr rfl
theorem nS {xs c p} (ha:PE X (.Tuple xs c p) te) (hr:PA X es t):PA X (.Tuple xs c p::es) (bV te t):=b7 ha hr rfl
theorem JG {xs p} (ha:PE X (.List xs p) te) (hr:PA X es t):PA X (.List xs p::es) (bV te t):=b7 ha hr rfl
theorem pa_d {ks vs p} (ha:PE X (.Dict ks vs p) te) (hr:PA X es t):PA X (.Dict ks vs p::es) (bV te t):=b7 ha hr rfl
end
noncomputable def sO:Expr->Option V
 | .Constant (.int i) _ _=>some (.int i)
 | .Constant (.bool b) _ _=>some (.bl b)
 | .Constant .none _ _=>some .non
 | .Constant (.str x) _ _=>some (.str x)
 | .UnaryOp .USub (.Constant (.int i) _ _) _=>some (.int (-i))
 | _=>none
noncomputable def cP:List Expr->Option (List V)
 | []=>some []
 | e::es=>match sO e,cP es with
  | some v,some vs=>some (v::vs)
  | _,_=>none
theorem zM (h:sO e=some v):PE X e (tC v)/\∀es:List Expr,w6 (e::es) X.env=(false,eval e X.env)::w6 es X.env:=by
 unfold sO at h
 split at h
 ·cases h;exact ⟨j8,fun _=>rfl⟩
 ·cases h;exact ⟨Y4,fun _=>rfl⟩
 ·cases h;exact ⟨fI,fun _=>rfl⟩
 ·cases h;exact ⟨ie,fun _=>rfl⟩
 ·cases h
  refine ⟨fun pins s σ H Q I q=>?_,fun _=>rfl⟩
  exact Bw vO j8 pins s σ H Q I ⟨_,rfl,q⟩
 ·cases h
theorem nU {X:Cx}{t:TA}:∀{es:List Expr}{vs:List V} (n:Nat),cP (es.take n)=some vs->PA X (es.drop n) t->PA X es (fun σ H Q=>t σ H fun ws H1=>Q (vs++ws) H1)
 | es,vs,0,h,hr=>by
  have e:vs=[]:=by
   have h':cP []=some vs:=by simpa using h
   cases h';rfl
  subst e
  exact hr
 | [],vs,n+1,h,hr=>by
  have e:vs=[]:=by
   have h':cP []=some vs:=by simpa using h
   cases h';rfl
  subst e
  exact hr
 | e::es,vs,n+1,h,hr=>by
  have h':cP (e::es.take n)=some vs:=by simpa using h
  unfold cP at h'
  cases e1:sO e with
  | none=>rw[e1] at h';cases h'
  | some v =>
   cases e2:cP (es.take n) with
   | none=>rw[e1,e2] at h';cases h'
   | some us =>
    rw[e1,e2] at h'
    cases h'
    obtain ⟨p1,p2⟩:=zM (X:=X) e1
    have ih:=nU (es:=es) n e2 (by simpa using hr)
    exact b7 p1 ih (p2 es)
theorem lj {vs:List V} (h:cP es=some vs):PA X es (fun _ H Q=>Q vs H):=by
 have z:=nU (X:=X) (es:=es) (vs:=vs) es.length (by rw[D8];exact h) (by rw[List.drop_length];exact d8)
 have e:(fun (σ:L2.St) (H:Hp) (Q:List V->Hp->Prop)=>jQ σ H fun ws H1=>Q (vs++ws) H1)=fun _ H Q=>Q vs H:=by
  funext σ H Q
  show Q (vs++[]) H=Q vs H
  rw[T8]
 rw[<- e]
 exact z
theorem rZ {a c:Expr}{xs:List Expr}{vs:List V}{ta tc:TE}{p1 p2 p3:Pos} (h:cP xs=some vs) (ha:PE X a ta) (hc:PE X c tc) (hx:yF c):
  PE X (.Subscript a (.Subscript (.List xs p1) c p2) p3) (fe (Ef X.K) ta (fe (Ef X.K) (Ea fun _ H Q=>Q vs H) tc)):=
 G1 O7 ha (G1 O7 (N1 (lj h)) hc hx) (fun _ _=>rfl)
structure vI (X:Cx):Prop where
 inj:∀x y c,X.env.cells.lookup x=some c->X.env.cells.lookup y=some c->x=y
 has:∀x,(X.env.kindOf x=some .cell ∨ X.env.kindOf x=some .free)->∃c,X.env.cells.lookup x=some c
theorem GS {t:TE} (h:PE X e t):PE X e (fun σ H Q=>vI X->t σ H Q):=fun pins s σ H Q I q=>h pins s σ H Q I (q ⟨I.ok.inj,I.ok.has⟩)
section
variable {X:Cx}{σ:L2.St}{H Hf:Hp}{scope:N3}
theorem vI.closed (Z:vI X) (hf:az scope X.env=true):∀x∈scope.names,x.2=.free->∃c,X.env.cells.lookup x.1=some c:=fun x hx hk=>Z.has x.1 (fL hf hx hk)
theorem vI.sub (Z:vI X) (hf:az scope X.env=true) {x:Str}{c:Addr} (h:(S1 X.env scope.names []).lookup x=some c):X.env.cells.lookup x=some c:=by
 obtain ⟨y,hm,e⟩:=bX h
 subst e
 rcases eY (Z.closed hf) hm with q|q
 ·cases q
 ·exact q
theorem vI.cel (Z:vI X) (hf:az scope X.env=true) {b:Addr} (h:gq (S1 X.env scope.names []) b):gq X.env.cells b:=let ⟨x,e⟩:=h;⟨x,Z.sub hf e⟩
theorem vI.lsc (Z:vI X) (hf:az scope X.env=true) (k1:scope.kind=.function) (k2:scope.isCoroutine=false) (k3:scope.isGenerator=false) (k4:∀x∈scope.names,x.2≠.cell):kG (S1 X.env scope.names []) scope :=
 ⟨k1,k2,k3,k4,fun x y c h1 h2=>Z.inj x y c (Z.sub hf h1) (Z.sub hf h2),fun x h=>by
  obtain ⟨y,hm,e⟩:=bX h
  subst e
  obtain ⟨c,hc⟩:=cW (env:=X.env) (acc:=[]) hm
  exact ah hc⟩
theorem vI.celk (Z:vI X) (hf:az scope X.env=true) (fz:oG X σ H Hf):vj (S1 X.env scope.names []) Hf:=fun x c h=>fz.cell x c (Z.sub hf h)
theorem vI.st (Z:vI X) (hf:az scope X.env=true) (fz:oG X σ H Hf) {N:List Str}{ix:List (Option Nat)} (hx:ip scope X.N N ix=true):CS (S1 X.env scope.names []) scope N Hf (gy ix σ):=by
 refine ⟨by unfold gy;rw[b9];exact jY hx,fun j x v h1 h2=>?_⟩
 obtain ⟨i,h3,h4⟩:=ue h2
 obtain ⟨y,e1,e2,e3⟩:=jZ hx h3
 rw[h1] at e1
 cases e1
 obtain ⟨y,hm,e⟩:=bX e3
 subst e
 obtain ⟨c,oc,u,c1,c2,c3,c4⟩:=fz.val i y v e2 h4 (fL hf hm rfl)
 obtain ⟨d,hd⟩:=cW (env:=X.env) (acc:=[]) hm
 obtain ⟨d',hd'⟩:=ah hd
 have z:=Z.sub hf hd'
 rw[c1] at z
 cases z
 exact ⟨e3,c,oc,u,hd',c2,c3,c4⟩
theorem oG.same (fz:oG X σ H Hf):j7 H Hf:=fun b o e=>by rw[fz.out b (fun z=>by rw[fz.none b z] at e;cases e)];exact e
theorem oG.inner (fz:oG X σ H Hf) (Z:vI X) (hf:az scope X.env=true):j7 H (bc (S1 X.env scope.names []) Hf):=fun b o e=>by
 have nc:¬ gq X.env.cells b:=fun z=>by rw[fz.none b z] at e;cases e
 rw[M9 fun z=>nc (Z.cel hf z)]
 exact fz.same b o e
theorem oG.back (fz:oG X σ H Hf) {H':Hp} (g:j7 Hf H'):j7 H (bc X.env.cells H'):=fun b o e=>by
 have nc:¬ gq X.env.cells b:=fun z=>by rw[fz.none b z] at e;cases e
 rw[M9 nc]
 exact g b o (fz.same b o e)
end
theorem xV (g:j7 (bc cl H) H'):j7 H (vD cl H H'):=fun b o e=>by
 by_cases z:gq cl b
 ·rw[wB z];exact e
 ·rw[bM z];exact g b o (by rw[M9 z];exact e)
noncomputable def Jo (P:j9) (w:t9) (K:m9) (mg:Str->Option d6) (base:Heap) (k:Nat) (f c:Addr) (name qual:Str) (params:cq) (body:Expr) (scope:N3) (cl:List (Str × Addr)) (pm ct:d6) (N:List Str):Sp:=fun vs H Q E =>
 vs=[]/\H f=some (KN (zY name qual params body scope cl pm c ct))/\yH qual H c/\vj cl H/\∃σ,CS cl scope N H σ /\
  ∀(A:v7) (outer:List Env) (s:d7),bg k (A.deeper (mQ qual scope s.heap.objs.size f (.ref c) cl))->∃t,PE (qC P w K mg base N qual scope f (.ref c) cl A outer s (bc cl H) (fun C d H'=>E C d (vD cl H H'))) body t/\t σ (bc cl H) (fun v H'=>Q v (vD cl H H'))
theorem kK.kp {q:Str}{l:Addr}{xs:List V} (h:kK q T H) (hl:H l=some (.lst xs)) (k:Kp l H H'):kK q T H':=by
 obtain ⟨ps,h1,h2,h3⟩:=h
 refine ⟨ps,k T _ (fun e=>by rw[e,hl] at h1;cases h1) h1,h2,fun pos v e=>?_⟩
 obtain ⟨c,oc,vs,t,e1,e2,e3,e4⟩:=h3 pos v e
 exact ⟨c,oc,vs,t,e1,k c _ (fun z=>by rw[z,hl] at e2;cases e2) e2,e3,e4⟩
theorem kK.same {q:Str}(h:kK q T H) (g:j7 H H'):kK q T H':=by
 obtain ⟨ps,h1,h2,h3⟩:=h
 refine ⟨ps,g _ _ h1,h2,fun pos v e=>?_⟩
 obtain ⟨c,oc,vs,t,e1,e2,e3,e4⟩:=h3 pos v e
 exact ⟨c,oc,vs,t,e1,g _ _ e2,e3,e4⟩
theorem nR {p:Pos}{t:TA} (C:S2 X.prog X.w X.K X.mg X.base k x ps sp) (hr:bg k X.A) (hg:Gl X x) (ha:PA X (e::es) t)
  (hfn:∀y,X.fn y=true:=by intro y;rfl) (hdb:(x == ("__debug__":Str))=false:=by decide) (he:w6 (e::es) X.env=(false,eval e X.env)::w6 es X.env:=by rfl) (hpl:(S9 pos (w6 es X.env)).any (·.1)=false:=by rfl):
  PE X (.Call (.Name x p) (e::es) [] pos) (fun σ H Q=>vI X->AF X sp t σ H Q):=by
 obtain ⟨f,fd,hm,hk,hb,F⟩:=C.ex
 exact GS (Bz F hr hg hm hk hb hfn ha hdb he hpl)
noncomputable def lB:A2->Bool
 | .list _=>true
 | .tuple _=>true
 | _=>false
section
variable {X:Cx}
noncomputable def BM:A2->Bool
 | .none=>true
 | .int _=>true
 | .tuple _=>true
 | _=>false
theorem uL (v:d6):∀(n:Nat) (acc:Array d6),(m6 n #[v]).foldl (·++·) acc=acc++(m6 n v).toArray
 | 0,acc=>by simp
 | n+1,acc=>by rw[E4,List.foldl_cons,uL v n];apply Array.toList_inj.mp;simp[E4]
end
section
variable {X:Cx}{scope:N3}{N:List Str}{ix:List (Option Nat)}{elt target iter:Expr}{ifs:List Expr}{pos:Pos}{wi:TI}{g:TG}{tc:TT}
end
section
variable {X:Cx}
noncomputable def tD1 (k v:Int):TE:=fun _ H Q=>∀p,H p=none->Q (.ref p) (t6 H p (.dK [(U2 k,.int v)]))
theorem JE {k v:Int}{j1 j2}{p1 p2 pos:Pos}:PE X (.Dict [some (.Constant (.int k) j1 p1)] [.Constant (.int v) j2 p2] pos) (tD1 k v):=by
 intro pins s σ H Q I h
 refine wpAny_Dict_pairs (knd:=P4 X.prog X.w) (pairs:=[(eval (.Constant (.int k) j1 p1) X.env,do let x <- eval (.Constant (.int v) j2 p2) X.env;standAt pos;pure x)]) rfl (by simp) (by simp) ?_
 refine evalPairs_cons (oV (b8 (oV (b8 (iQ (i8 (evalPairs_nil ?_)))))))
 refine ⟨[(U2 k,_)],⟨?_,rfl,trivial⟩,xn s.heap,fun h' dd hs=>?_⟩
 ·exact (by simp[lU,yR]:lU (U2 k) (.int k s.toks)=true)
 ·exact ⟨.ref s.heap.objs.size,_,I.laid (a:=s.heap.objs.size) (o:=.dK [(U2 k,.int v)]) (t':=_) (fun b u q=>(hs.2 b (w9 (m7 q))).trans (f9 _ q)) (i9 _)
   ⟨by show 1<=i7;decide,beq_eq_false_iff_ne.mpr (M3 (w9 I.bigger)),_,.cons ⟨rfl,⟨_,rfl⟩⟩ .nil,dd⟩,rfl,h _ (I.hok.fresh (i9 _))⟩
theorem wL (l:Addr) (items:Array d6) (n:Nat) (dd:Option Addr) (sl:Array (Option d6)) (t:Tok) (xs:Array d6) (k:Nat) (hk:k=5) (hm1:1<=items.size) (hm:items.size<=4) (hx:(m6 k items).foldl (·++·) #[]=xs) (hs:xs.size<=20):
  Dl (bI.«tuple.__mul__» ⟨[.ref l,.int (k:Int) t],[]⟩) (fun _ R s=>s.heap.get? l=some { cls:=.type "tuple",dict:=dd,data:=.seq items n,slots:=sl } /\
   R (.ok (.ret (.ref s.heap.objs.size))) { s with heap:=s.heap.push { cls:=.type "tuple",data:=.seq xs } }):=
 .of_wp fun prog w A R s h=>by
  obtain ⟨hp,g,d,tk,os⟩:=s;obtain ⟨hl,h⟩:=h
  wp_walk
  have hne:items.isEmpty=false:=by
   unfold Array.isEmpty
   exact decide_eq_false (by lia)
  rw[if_neg (by rw[hne,hk];decide)]
  wp_walk
  rw[if_neg (by
   rw[hk]
   have:items.size=1 ∨ items.size=2 ∨ items.size=3 ∨ items.size=4:=by lia
   rcases this with e|e|e|e <;> rw[e] <;> decide)]
  simp only[Q8,hx]
  wp_walk
  have hz:¬ xs.size > i7:=by
   have z:20<i7:=by decide
   lia
  have hy:¬ Builtin.Tuple.tupleTooMany ((items.size:Int)*((k:Nat):Int))=true:=by
   rw[hk]
   have:items.size=1 ∨ items.size=2 ∨ items.size=3 ∨ items.size=4:=by lia
   rcases this with e|e|e|e <;> rw[e] <;> decide
  rw[if_neg hy]
  wp_walk
  exact ⟨_,rfl,h⟩
theorem zH (xs:List d6):(m6 5 xs.toArray).foldl (·++·) #[]=(m6 5 xs).flatten.toArray:=by
 apply Array.toList_inj.mp
 simp[E4]
noncomputable def Jx:R2:=fun x y H Q=>∃(a:Addr) (xs:List V),x=.ref a/\y=.int 5/\H a=some (.tup xs)/\1<=xs.length/\xs.length<=4/\∀p H',j7 H H'->H' p=some (.tup (m6 5 xs).flatten)->Q (.ref p) H'
theorem pU {xs:List V}{us:List d6} (r:F2 xs us):∀n:Nat,F2 (m6 n xs).flatten (m6 n us).flatten
 | 0=>.nil
 | n+1=>by rw[E4,E4,DU,DU];exact r.append (pU r n)
theorem Ep:gK X (R1 .Mult) Jx:=by
 intro pins s σ H x y w' u Q I rx ry h
 obtain ⟨a,xs,rfl,rfl,ha,h1,h4,q⟩:=h
 cases rx
 obtain ⟨t,rfl⟩:=ry
 obtain ⟨its,r,p1,_⟩:=I.tuple (aQ.of (K:=X.K) ha)
 obtain ⟨⟨cls,dd,data,sl⟩,ho,hc,n,hd⟩:=id p1
 simp only at hc hd
 subst hc hd
 have hl:=r.length
 refine aU (T:="tuple") (U:="int") (by decide) ⟨_,ho,rfl⟩ (fun s'=>bP s' 5 t) Z2 jF U5 cM F.slot_int_index.lookup
  (W2 U5 (bP s 5 t) iY (gJ _ _) (fC 5 t a _ n dd sl) ⟨ho,rfl,⟨_,ho,rfl⟩,?_⟩)
 refine W2 dc ⟨_,ho,rfl⟩ cw (bz _ _) (wL a its.toArray n dd sl t _ 5 rfl (by rw[n6];lia) (by rw[n6];lia) (zH its) (by rw[n6];simp[E4];lia)) ⟨ho,?_⟩
 refine ⟨.ref s.heap.objs.size,_,I.laid (t':=s.toks) (o:=.tup (m6 5 xs).flatten) (fun b ob q=>f9 _ q) (i9 _) ?_,rfl,q _ _ (j7.new (I.hok.fresh (i9 _))) f6⟩
 have hz:(m6 5 xs).flatten.length<=i7:=by
  have z:20<=i7:=by decide
  refine m8 ?_ z
  simp[E4];lia
 exact ⟨⟨hz,⟨_,q9 _ rfl,rfl⟩⟩,_,pU r _,cu _ _⟩
end
section
variable (P:j9) (w:t9)
end
section
variable {P:j9}{w:t9}{H H':Hp}{h h':Heap}{a:Addr}{o:HO}
end
section
variable {P:j9}{w:t9}{H:Hp}{h h':Heap}{x e:Addr}{o':HO}
end
section
variable {fs fs' ex ex':List Addr}{H H1 H2:Hp}{h h1 h2 h':Heap}{a x e:Addr}{o:HO}
end
section
variable {X:Cx}{pins:List (Addr × Obj)}{σ:List (Option V)}{H H':Hp}{s:d7}{h':Heap}
end
section
variable {X:Cx}
variable {a b:Expr}{ta tb:TE}{pos:Pos}
variable {tA tB':TT}{jw:List Expr}
end
section
variable {X:Cx}{pins:List (Addr × Obj)}{σ:St}{H:Hp}{s:d7}{a:Addr}{xs ys:List V}
end
section
variable {X:Cx}{pins:List (Addr × Obj)}{σ:St}{H:Hp}{s:d7}{E:d6->d7->Prop}
end
section
variable {X:Cx}{st:Stmt}{jw:List Stmt}{t u:TS}{e:Expr}{te:TE}{pos:Pos}
end
section
variable {X:Cx}{pos:Pos}
end
section
variable {X:Cx}{tg:Expr}
end
section
variable {X:Cx}{a b c:Expr}{ta tb tc:TE}{pos:Pos}
end
section
variable {prog:j9}{w:t9}{A:v7}{E:d6->d7->Prop}{s:d7}{K:m9}{x dx C f:Addr}{mA:Str->Option d6}{name:Str}{v:d6}
end
section
variable {P:j9}{w:t9}{H H':Hp}{h h':Heap}{a C dx:Addr}{fs fs':List (Str × V)}
end
section
variable {X:Cx}{pins:List (Addr × Obj)}{σ:St}{H:Hp}{s:d7}{a C dx:Addr}{fs:List (Str × V)}{f:Str}{v:V}{A:v7}{E:d6->d7->Prop}
end
section
variable {X:Cx}{o e value:Expr}{f:Str}{pos pos' tpos:Pos}{ta tv:TE}
end
section
variable {X:Cx}{pins:List (Addr × Obj)}{σ:St}{H:Hp}{s:d7}{A:v7}{E:d6->d7->Prop}{Q:d6->d7->Prop}{c:d6}{b:Bool}
end
section
variable {X:Cx}{e:Expr}{es:List Expr}{te:TE}{t:TA}{pos:Pos}
end
section
variable {X:Cx}{pins:List (Addr × Obj)}{σ:St}{H:Hp}{s s':d7}
end
section
variable {X:Cx}{CX:yI}{k:Nat}{f C:Addr}{fd:C4}{ps:List Str}{sp:Sp}{dvs:List V}{ds:List d6}{E:XK}{x m:Str}{p pos apos:Pos}{e o:Expr}{es:List Expr}{ta:TE}{t:TA}
end
section
variable {X:Cx}{CX:yI}{k:Nat}{f C:Addr}{fd:C4}{ps ks:List Str}{sp:Sp}{E:XK}{x m:Str}{p pos apos kpos:Pos}{e o:Expr}{es:List Expr}{kws:List iz}{te ta:TE}{t tk:TA}{nm:Option Str}
variable {g:List d6->List d6->List d6}{gV:List V->List V->List V}
end
section
variable {X:Cx}{x:Str}{p pos:Pos}{e:Expr}{es:List Expr}{t:TA}{id T:String}{r:List V->Hp->VK->Prop}
end
section
variable {κ:Type} [DecidableEq κ]
noncomputable def jo (kvs:List (κ × V)) (k:κ):Option V:=(kvs.find? fun kv=>decide (kv.1=k)).map (·.2)
noncomputable def iZ (kvs:List (κ × V)) (k:κ) (v:V):List (κ × V):=
 if (kvs.any fun kv=>decide (kv.1=k))=true then kvs.map (fun kv=>if kv.1=k then (kv.1,v) else kv) else kvs++[(k,v)]
variable {k:κ}
theorem gS {p:κ × V}{r:List (κ × V)}(e:p.1=k):jo (p::r) k=some p.2:=by simp[jo,aI,e]
theorem eM {p:κ × V}{r:List (κ × V)}(e:¬ p.1=k):jo (p::r) k=jo r k:=by simp[jo,aI,e]
theorem mZ (k:κ):∀kvs:List (κ × V),(kvs.any fun kv=>decide (kv.1=k))=(jo kvs k).isSome
 | []=>rfl
 | p::r=>by
  rw[kP]
  by_cases e:p.1=k
  ·simp only[gS e,decide_eq_true e,xo,zZ]
  ·rw[eM e,decide_eq_false e,vB];exact mZ k r
theorem lT (kvs:List (κ × V)) (k:κ) (v:V):(iZ kvs k v).length<=kvs.length+1:=by
 unfold iZ
 split
 ·rw[b9];lia
 ·rw[t8,r6,T7];lia
variable {kvs:List (κ × V)}
theorem Bl (v:V) (h:jo kvs k=none):iZ kvs k v=kvs++[(k,v)]:=by
 unfold iZ
 rw[mZ,h]
 exact if_neg (by decide)
theorem lG.isSome_eq {o:Option V}{u:Option d6} (r:lG o u):o.isSome=u.isSome:=by
 cases o with
 | none=>cases u with
  | none=>rfl
  | some _=>exact (show False from r).elim
 | some _=>cases u with
  | none=>exact (show False from r).elim
  | some _=>rfl
theorem lG.getD {o:Option V}{u:Option d6}{d:V}{d':d6} (r:lG o u) (rd:G8 d d'):G8 (o.getD d) (u.getD d'):=by
 cases o with
 | none=>cases u with
  | none=>exact rd
  | some _=>exact (show False from r).elim
 | some _=>cases u with
  | none=>exact (show False from r).elim
  | some _=>exact r
variable {vs:List (κ × d6)}
theorem KV.val (r:KV kvs vs) (k:κ):lG (jo kvs k) (qR vs k):=by
 unfold KV at r
 induction r with
 | nil=>exact U4
 | @cons p q ps qs h t ih =>
  obtain ⟨h1,h2⟩:=h
  by_cases e:p.1=k
  ·have e':q.1=k:=h1.symm.trans e
   have b:qR (q::qs) k=some q.2:=by simp[qR,aI,e']
   rw[gS e,b];exact h2
  ·have e':¬ q.1=k:=fun z=>e (h1.trans z)
   have b:qR (q::qs) k=qR qs k:=by simp[qR,aI,e']
   rw[eM e,b];exact ih
theorem KV.any {kvs:List (κ × V)}{vs:List (κ × d6)} (r:KV kvs vs) (k:κ):(kvs.any fun kv=>decide (kv.1=k))=vs.any fun kv=>decide (kv.1=k):=by
 unfold KV at r
 induction r with
 | nil=>rfl
 | cons h t ih=>rw[kP,kP,ih,h.1]
theorem KV.repl (r:KV kvs vs) (k:κ) {y:V}{u:d6} (ry:G8 y u):
  KV (kvs.map fun kv=>if kv.1=k then (kv.1,y) else kv) (vs.map fun kv=>if kv.1=k then (kv.1,u) else kv):=by
 unfold KV at r ⊢
 induction r with
 | nil=>exact .nil
 | @cons p q ps qs h t ih =>
  rw[B9,B9]
  refine .cons ?_ ih
  obtain ⟨h1,h2⟩:=h
  by_cases e:p.1=k
  ·rw[if_pos e,if_pos (h1.symm.trans e)];exact ⟨h1,ry⟩
  ·rw[if_neg e,if_neg (fun z=>e (h1.trans z))];exact ⟨h1,h2⟩
theorem KV.put (r:KV kvs vs) (k:κ) {y:V}{u:d6} (ry:G8 y u):KV (iZ kvs k y) (stored vs k u):=by
 unfold iZ stored
 rw[r.any k]
 by_cases e:(vs.any fun kv=>decide (kv.1=k))=true
 ·rw[if_pos e,if_pos e];exact r.repl k ry
 ·rw[if_neg e,if_neg e];exact IZ r ⟨rfl,ry⟩
theorem KV.length {kvs:List (κ × V)}{vs:List (κ × d6)} (r:KV kvs vs):kvs.length=vs.length:=fb r
end
variable {u:d6}
theorem uD {k:V0}(r:G8 (kV k) u):(P4 P w).is k u=true:=by
 cases k with
 | inl i=>obtain ⟨t,e⟩:=(show ∃t,u=mR i t from r);subst e;exact uv P w i t
 | inr x=>obtain ⟨t,e⟩:=(show ∃t,u=vp x t from r);subst e;exact ur P w x t
theorem qx {P:j9}{w:t9}:∀{ks:List V0}{us:List d6},F2 (ks.map kV) us->ItemsAre (P4 P w) ks us
 | [],_,r=>by rw[mD] at r;cases r;exact .nil
 | k::ks,_,r=>by
  rw[B9] at r
  cases r with
  | cons h t=>exact .cons (uD h) (qx t)
noncomputable abbrev KT (H:Hp):List (List V0 × V)->List (List V0 × Addr × d6)->Prop:=yT fun p q=>p.1=q.1/\H q.2.1=some (.tup (p.1.map kV))/\G8 p.2 q.2.2
variable {kvs:List (List V0 × V)}{xs:List (List V0 × Addr × d6)}
theorem KT.val (r:KT H kvs xs) (k:List V0):lG (jo kvs k) ((yQ xs k).map (·.2)):=by
 induction r with
 | nil=>exact U4
 | @cons p q ps qs h t ih =>
  obtain ⟨h1,_,h2⟩:=h
  by_cases e:p.1=k
  ·have e':q.1=k:=h1.symm.trans e
   have b:yQ (q::qs) k=some q.2:=by simp[yQ,aI,e']
   rw[gS e,b];exact h2
  ·have e':¬ q.1=k:=fun z=>e (h1.trans z)
   have b:yQ (q::qs) k=yQ qs k:=by simp[yQ,aI,e']
   rw[eM e,b];exact ih
variable {y:V}
theorem KT.repl (r:KT H kvs xs) (k:List V0) (ry:G8 y u):
  KT H (kvs.map fun kv=>if kv.1=k then (kv.1,y) else kv) (xs.map (putAt k u)):=by
 induction r with
 | nil=>exact .nil
 | @cons p q ps qs h t ih =>
  rw[B9,B9]
  refine .cons ?_ ih
  obtain ⟨h1,h2,h3⟩:=h
  unfold putAt
  by_cases e:p.1=k
  ·rw[if_pos e,if_pos (h1.symm.trans e)];exact ⟨h1,h2,ry⟩
  ·rw[if_neg e,if_neg (fun z=>e (h1.trans z))];exact ⟨h1,h2,h3⟩
theorem KT.put (r:KT H kvs xs) (k:List V0) (hb:H b=some (.tup (k.map kV))) (ry:G8 y u):
  KT H (iZ kvs k y) (storedH xs k b u):=by
 have e:(kvs.any fun kv=>decide (kv.1=k))=(yQ xs k).isSome:=by
  rw[mZ,(r.val k).isSome_eq,Al]
 unfold iZ storedH
 rw[e]
 by_cases q:(yQ xs k).isSome=true
 ·rw[if_pos q,if_pos q];exact r.repl k ry
 ·rw[if_neg q,if_neg q];exact IZ r ⟨rfl,hb,ry⟩
theorem KT.keeps (r:KT H kvs xs) (ht:∀b ys,H b=some (.tup ys)->H' b=some (.tup ys)):KT H' kvs xs :=
 Paired.mapP r fun _ _ z=>⟨z.1,ht _ _ z.2.1,z.2.2⟩
section
variable {P:j9}{w:t9}{H:Hp}{h:Heap}{a:Addr}
theorem Fy {u:HO} (ok:bh P w H h) (e:Rd H a u):N9 P w H h a u:=e.ok ok
theorem qB {kvs:List (V0 × V)} (ok:bh P w H h) (e:Rd H a (.dK kvs)):kvs.length<=i7/\(a == W0)=false/\∃vs,KV kvs vs/\h.DictOf (P4 P w) a vs :=
 show N9 P w H h a (.dK kvs) from Fy ok e
theorem JW {kvs:List (V0 × V)} (ok:bh P w H h) (e:H a=some (.dK kvs)):kvs.length<=i7/\(a == W0)=false/\∃vs,KV kvs vs/\h.DictOf (P4 P w) a vs:=qB ok (.inl e)
theorem lz {ks:List V0} (ok:bh P w H h) (e:H a=some (.tup (ks.map kV))):(dE (P4 P w)).is h ks a:=by
 obtain ⟨_,its,r,o,h1,h2,n,h3⟩:=(show N9 P w H h a (.tup (ks.map kV)) from ok a _ e)
 exact ⟨o,its.toArray,n,h1,h2,h3,by simpa using qx r⟩
theorem qA {kvs:List (List V0 × V)} (ok:bh P w H h) (e:Rd H a (.dT kvs)):kvs.length<=i7/\(a == W0)=false /\
  ∃xs,KT H kvs xs/\h.DictOfH (dE (P4 P w)) a xs:=by
 obtain ⟨z,y,xs,r,o,es,ep,h1,h2,h3,h4,h5⟩:=(show N9 P w H h a (.dT kvs) from Fy ok e)
 refine ⟨z,y,xs,r,o,es,ep,h1,h2,h3,h4,fun x hx=>?_,h5⟩
 have all:∀{l:List (List V0 × V)}{m:List (List V0 × Addr × d6)},KT H l m->∀x∈m,(dE (P4 P w)).is h x.1 x.2.1:=by
  intro l m q
  induction q with
  | nil=>intro x hx;exact nomatch hx
  | @cons p q ps qs hq t ih =>
   intro x hx
   rcases List.mem_cons.mp hx with e|hx
   ·subst e
    exact lz ok (by rw[<- hq.1];exact hq.2.1)
   ·exact ih x hx
 exact all r x hx
theorem FM {kvs:List (List V0 × V)} (ok:bh P w H h) (e:H a=some (.dT kvs)):kvs.length<=i7/\(a == W0)=false /\
  ∃xs,KT H kvs xs/\h.DictOfH (dE (P4 P w)) a xs:=qA ok (.inl e)
end
noncomputable def jC (H:Hp) (a:Addr) (y:V) (r:Option V):Prop :=
 (∃kvs k,Rd H a (.dK kvs)/\y=kV k/\r=jo kvs k) ∨ ∃kvs k b,Rd H a (.dT kvs)/\y=.ref b/\H b=some (.tup (k.map kV))/\r=jo kvs k
noncomputable def zW (H:Hp) (a:Addr) (y v:V) (H':Hp):Prop :=
 (∃kvs k,H a=some (.dK kvs)/\y=kV k/\kvs.length<i7/\H'=t6 H a (.dK (iZ kvs k v))) ∨
 ∃kvs k b,H a=some (.dT kvs)/\y=.ref b/\H b=some (.tup (k.map kV))/\kvs.length<i7/\H'=t6 H a (.dT (iZ kvs k v))
theorem jC.t {k:List V0} (e:H a=some (.dT kvs)) (eb:H b=some (.tup (k.map kV))):jC H a (.ref b) (jo kvs k):=.inr ⟨kvs,k,b,.inl e,rfl,eb,rfl⟩
theorem zW.t {k:List V0}(e:H a=some (.dT kvs)) (eb:H b=some (.tup (k.map kV))) (hl:kvs.length<i7):
  zW H a (.ref b) v (t6 H a (.dT (iZ kvs k v))):=.inr ⟨kvs,k,b,e,rfl,eb,hl,rfl⟩
section
variable {X:Cx}{pins:List (Addr × Obj)}{σ:St}{H:Hp}{s:d7}{a:Addr}{y v:V}{u r:d6}{o:Option V}{A:v7}{E:d6->d7->Prop}
theorem C6.big (I:C6 X pins σ H s):W0<s.heap.objs.size:=by
 have h:u5<s.heap.objs.size:=(I.mod.glob.keeps I.bk).lt
 exact Nat.lt_trans (by decide) h
theorem zL {Q:d6->d7->Prop} (hu:A.units+1<jk) (I:C6 X pins σ H s) (g:jC H a y (some v)) (ry:G8 y u) (h:∀w' s',C6 X pins σ H s'->G8 v w'->Q w' s'):
  r0 (y6 X.prog X.w) A (dN (.ref a) u) Q E s:=by
 rcases g with ⟨kvs,k,e,ey,l⟩|⟨kvs,k,b,e,ey,eb,l⟩
 ·subst ey
  obtain ⟨z,hd,vs,rel,dd⟩:=qB I.hok e
  obtain ⟨w',hw,rw'⟩:=lG.some_of (v:=v) (o:=qR vs k) (by rw[l];exact rel.val k)
  exact wpAny_getItem_of (uD ry) dd.mapOf hw (h w' _ (I.tok _) rw')
 ·subst ey
  cases (show u=B1 b from ry)
  obtain ⟨z,hd,xs,rel,dd⟩:=qA I.hok e
  obtain ⟨w',hw,rw'⟩:=lG.some_of (v:=v) (o:=(yQ xs k).map (·.2)) (by rw[l];exact rel.val k)
  obtain ⟨p,hp,hp2⟩:=Option.map_eq_some_iff.mp hw
  refine wpAny_getItem_heap (gv hu) (lz I.hok eb) dd hp ?_
  rw[hp2]
  exact h w' _ (I.tok _) rw'
theorem d_in {Q:d6->d7->Prop} (hu:A.units+1<jk) (I:C6 X pins σ H s) (g:jC H a y o) (ry:G8 y u) (h:∀s',C6 X pins σ H s'->Q (.bool o.isSome) s'):
  r0 (y6 X.prog X.w) A (P9 .In u (.ref a)) Q E s:=by
 rcases g with ⟨kvs,k,e,ey,l⟩|⟨kvs,k,b,e,ey,eb,l⟩
 ·subst ey
  obtain ⟨z,hd,vs,rel,dd⟩:=qB I.hok e
  refine wpAny_in_of (uD ry) hd dd.mapOf ?_
  rw[<- (rel.val k).isSome_eq,<- l]
  exact h _ (I.tok _)
 ·subst ey
  cases (show u=B1 b from ry)
  obtain ⟨z,hd,xs,rel,dd⟩:=qA I.hok e
  refine wpAny_in_heap (gv hu) (lz I.hok eb) hd dd ?_
  have q:=(rel.val k).isSome_eq
  rw[Al] at q
  rw[<- q,<- l]
  exact h _ (I.tok _)
theorem sM {h':Heap}{t':Nat}{ob:HO} (I:C6 X pins σ H s) (mu:Kf (H a)) (hs:R6 a s.heap h') (he:∃q,h'.get? a=some q) (new:N9 X.prog X.w (t6 H a ob) h' a ob):
  C6 X pins σ (t6 H a ob) { s with heap:=h',toks:=t' } :=
 I.write (x:=a) (e:=a) mu (.inl rfl) (fun b q hb z=>(hs.2 b hb).trans z) he new
theorem Ig {P:j9}{w:t9}{H':Hp}{h':Heap}{kvs:List (V0 × V)}{vs:List (V0 × d6)} (z:kvs.length<=i7) (hd:(a == W0)=false) (rel:KV kvs vs) (dd:h'.DictOf (P4 P w) a vs):
  N9 P w H' h' a (.dK kvs):=⟨z,hd,vs,rel,dd⟩
theorem zK {H':Hp}{Q:Unit->d7->Prop} (hu:A.units+1<jk) (I:C6 X pins σ H s) (g:zW H a y v H') (ry:G8 y u) (rv:G8 v r) (h:∀s',C6 X pins σ H' s'->Q () s'):
  r0 (y6 X.prog X.w) A (setItem (.ref a) u r) Q E s:=by
 rcases g with ⟨kvs,k,e,ey,l,eH⟩|⟨kvs,k,b,e,ey,eb,l,eH⟩
 ·subst ey eH
  obtain ⟨z,hd,vs,rel,dd⟩:=JW I.hok e
  have hz:vs.length<=i7:=by rw[<- rel.length];exact z
  have hl:(iZ kvs k v).length<=i7:=by have:=lT kvs k v;lia
  refine wpAny_setItem_pairs (hsz:=hz) (uD ry) dd fun h' dd' hs=>h _ ?_
  have he:∃q,h'.get? a=some q:=let ⟨q,_,_,hq,_⟩:=dd';⟨q,hq⟩
  exact sM I (by rw[e];exact U4) hs he (Ig hl hd (rel.put k rv) dd')
 ·subst ey eH
  cases (show u=B1 b from ry)
  obtain ⟨z,hd,xs,rel,dd⟩:=FM I.hok e
  have hz:xs.length<=i7:=by rw[<- fb rel];exact z
  have hl:(iZ kvs k v).length<=i7:=by have:=lT kvs k v;lia
  refine wpAny_setItem_heap (hsz:=hz) (gv hu) (lz I.hok eb) dd fun h' dd' hs=>h _ ?_
  obtain ⟨q,es,ep,hq,h2,h3,h4,_,h5⟩:=dd'
  refine sM I (by rw[e];exact U4) hs ⟨q,hq⟩ ⟨hl,hd,_,(rel.put k eb rv).keeps fun c ys ec=>?_,q,es,ep,hq,h2,h3,h4,h5⟩
  rw[B6 (qm ec e (fun z=>nomatch z))]
  exact ec
end
section
variable {X:Cx}{pins:List (Addr × Obj)}{σ:St}{H:Hp}{s:d7}{a:Addr}{kvs:List (V0 × V)}{k:V0}{u:d6}{A:v7}{E:d6->d7->Prop}
end
noncomputable def Ke (i:Expr):Prop:=∀ov iv,vk i false ov iv=operate [ov,iv] (dN ov iv)
theorem Ec {prog:j9}{value slice:Expr}{T id:String}{Q:d6->d7->Prop}
  (hl:IQ (.type T) "__getitem__"=pure (some (.builtin id))) (hs:Ke slice)
  (h:r0 (y6 prog w) A (eval value env) (fun o s₁=>r0 (y6 prog w) A (eval slice env) (fun i s₂=>s₂.TypeIs o T/\r0 (y6 prog w) A (dN o i) Q E s₂) E s₁) E s):
  r0 (y6 prog w) A (eval (.Subscript value slice pos) env) Q E s:=by
 refine yS (F0 h (fun o s₁ h₁=>F0 h₁ (fun i s₂ h₂=>?_) fun _ _ x=>x) fun _ _ x=>x)
 obtain ⟨hT,h₂⟩:=h₂
 unfold oM
 refine b8 ?_
 rw[getitemInPython_of_ne hT.not_modules]
 refine b8 (wpAny_specialOf hT hl ?_)
 have fin:r0 (y6 prog w) A (vk slice false o i) (fun r s₃=>r0 (y6 prog w) A (letTemporaryGo value o r >>= fun _=>pure r) Q E s₃) E s₂:=by
  rw[hs o i]
  exact wpAny_operating (F0 h₂ (fun r s₃ h₃=>b8 (wpAny_letTemporaryGo (i8 h₃))) fun _ _ x=>x)
 first
  | exact i8 (b8 fin)
  | exact b8 (i8 (b8 fin))
  | exact b8 fin
theorem uR {o:Option V} (I:C6 X pins σ H s) (g:jC H a y o):s.TypeIs (.ref a) "dict":=by
 rcases g with ⟨kvs,k,e,_,_⟩|⟨kvs,k,b,e,_,_,_⟩
 ·obtain ⟨_,_,vs,_,dd⟩:=qB I.hok e
  exact dd.typeIs
 ·obtain ⟨_,_,xs,_,dd⟩:=qA I.hok e
  exact dd.typeIs
noncomputable def Jk (td ty:TE):TE:=fun σ H Q=>td σ H fun x H1=>ty σ H1 fun y H2=>∃a v,x=.ref a/\jC H2 a y (some v)/\Q v H2
noncomputable def tDIn (ty td:TE):TE:=fun σ H Q=>ty σ H fun y H1=>td σ H1 fun x H2=>∃a o,x=.ref a/\jC H2 a y o/\Q (.bl o.isSome) H2
noncomputable def Ju (td ty tv:TE):TS:=fun D σ H=>tv σ H fun v H1=>td σ H1 fun x H2=>ty σ H2 fun y H3=>∃a H4,x=.ref a/\zW H3 a y v H4/\D.nx σ H4
section
variable {X:Cx}{o i e value:Expr}{pos pos' tpos:Pos}{td ty tv:TE}
theorem sd (hu:X.A.units+1<jk) (ho:PE X o td) (hi:PE X i ty) (hs:Ke i):PE X (.Subscript o i pos) (Jk td ty):=by
 intro pins s σ H Q I h
 refine Ec PySem.F.slot_dict_getitem.lookup hs (Q9 (ho pins s σ H _ I h) fun u s1 ⟨x,H1,I1,rx,q1⟩=>Q9 (hi pins s1 σ H1 _ I1 q1) fun iv s2 ⟨y,H2,I2,ry,a,v,ex,g,q2⟩=>?_)
 subst ex
 obtain rfl:u=B1 a:=rx
 exact ⟨uR I2 g,zL hu I2 g ry fun w' s3 I3 rw'=>⟨v,H2,I3,rw',q2⟩⟩
theorem GV (hu:X.A.units+1<jk) (hi:PE X i ty) (ho:PE X o td):PC X .In i o (tDIn ty td):=by
 intro pins s σ H Q I h
 refine Q9 (hi pins s σ H _ I h) fun iv s1 ⟨y,H1,I1,ry,q1⟩=>Q9 (ho pins s1 σ H1 _ I1 q1) fun u s2 ⟨x,H2,I2,rx,a,ov,ex,g,q2⟩=>?_
 subst ex
 obtain rfl:u=B1 a:=rx
 exact d_in hu I2 g ry fun s3 I3=>⟨.bl ov.isSome,H2,I3,rfl,q2⟩
theorem xM (hu:X.A.units+1<jk) (ho:PE X o td) (hi:PE X i ty) (hv:PE X value tv) (hs:mz value (some (.Subscript o i pos')) pos.line X.env=pure false):
  PS X (.Assign [.Subscript o i pos'] value pos) (Ju td ty tv):=by
 intro pins s σ H D I h
 refine wpAny_Assign_Subscript (Q9 (hv pins s σ H _ I h) fun r s1 ⟨v,H1,I1,rv,q1⟩=>Q9 (ho pins s1 σ H1 _ I1 q1) fun u s2 ⟨x,H2,I2,rx,q2⟩=>Q9 (hi pins s2 σ H2 _ I2 q2) fun iv s3 ⟨y,H3,I3,ry,a,H4,ex,g,q3⟩=>?_) hs
 subst ex
 obtain rfl:u=B1 a:=rx
 exact zK hu I3 g ry rv fun s4 I4=>⟨σ,H4,I4,q3⟩
end
theorem uP (h:Heap) (hb:W0<h.objs.size):N9 P w H (h.push { cls:=.type "dict",data:=.dict #[] }) h.objs.size (.dT []):=
 ⟨u9 _,beq_eq_false_iff_ne.mpr (M3 (w9 hb)),[],.nil,_,#[],0,q9 _ rfl,⟨rfl,rfl,rfl⟩,rfl,rfl,List.nodup_nil⟩
noncomputable def Gp:TE:=fun _ H Q=>∀p,H p=none->Q (.ref p) (t6 H p (.dT []))
section
variable {X:Cx}{pos:Pos}
theorem ug:PE X (.Dict [] [] pos) Gp:=fun pins s σ H Q I h =>
 KR ⟨.ref s.heap.objs.size,_,I.laid (a:=s.heap.objs.size) (o:=.dT []) (t':=s.toks) (fun _ _ q=>f9 _ q) (i9 _) (uP s.heap I.big),rfl,h _ (I.hok.fresh (i9 _))⟩
end
structure M1 (X:Cx) (o:Expr) (m:Str) (apos:Pos) (e:Expr) (cpos:Pos):Prop where
 base:iT o m X.env (eval o X.env)=eval o X.env
 few:((S9 cpos (w6 [e] X.env)).all (fun x=>!x.1)&&(FW cpos (vm [] X.env)).all (fun x=>x.1.isSome)
  && decide (([e]:List Expr).length+([]:List iz).length+(if ([]:List iz).isEmpty then 0 else 1)<30))=true
 line:(apos.endLine == cpos.line)=true
 trees:S9 cpos (w6 [e] X.env)=[(false,eval e X.env)]
structure M2 (X:Cx) (o:Expr) (m:Str) (apos:Pos) (e f:Expr) (cpos:Pos):Prop where
 base:iT o m X.env (eval o X.env)=eval o X.env
 few:((S9 cpos (w6 [e,f] X.env)).all (fun x=>!x.1)&&(FW cpos (vm [] X.env)).all (fun x=>x.1.isSome)
  && decide (([e,f]:List Expr).length+([]:List iz).length+(if ([]:List iz).isEmpty then 0 else 1)<30))=true
 line:(apos.endLine == cpos.line)=true
 trees:S9 cpos (w6 [e,f] X.env)=[(false,eval e X.env),(false,eval f X.env)]
noncomputable def IsD (H:Hp) (a:Addr):Prop:=(∃kvs,Rd H a (.dK kvs)) ∨ ∃kvs,Rd H a (.dT kvs)
theorem HV (I:C6 X pins σ H s) (d:IsD H a):
  s.TypeIs (.ref a) "dict"/\(∀b,B1 a=.ref b->∃ob,s.heap.get? b=some ob/\ob.dict=none)/\(a == W0)=false:=by
 rcases d with ⟨kvs,e⟩|⟨kvs,e⟩
 ·obtain ⟨_,hd,vs,_,dd⟩:=qB I.hok e
  refine ⟨dd.typeIs,fun b q=>?_,hd⟩
  cases q
  obtain ⟨ob,_,_,h1,h2,_⟩:=dd
  exact ⟨ob,h1,h2.2.1⟩
 ·obtain ⟨_,hd,xs,_,dd⟩:=qA I.hok e
  refine ⟨dd.typeIs,fun b q=>?_,hd⟩
  cases q
  obtain ⟨ob,_,_,h1,h2,_⟩:=dd
  exact ⟨ob,h1,h2.2.1⟩
section
variable {X:Cx}{pins:List (Addr × Obj)}{σ:St}{H:Hp}{s:d7}{a:Addr}{y d:V}{u r:d6}{o:Option V}{A:v7}{E:d6->d7->Prop}
theorem Ih {Q:d6->d7->Prop} (hu:A.units+1<jk) (I:C6 X pins σ H s) (g:jC H a y o) (ry:G8 y u) (rd:G8 d r) (h:∀w' s',C6 X pins σ H s'->G8 (o.getD d) w'->Q w' s'):
  r0 (y6 X.prog X.w) A (call (.builtin "dict.get") [.ref a,u,r]) Q E s:=by
 rcases g with ⟨kvs,k,e,ey,l⟩|⟨kvs,k,b,e,ey,eb,l⟩
 ·subst ey
  obtain ⟨z,hd,vs,rel,dd⟩:=qB I.hok e
  refine DL gM dd.typeIs tE (sY _ _ _) (meets_dict_get_default (P4 X.prog X.w) a (uD ry) hd r) ⟨_,dd.mapOf,h _ _ (I.tok _) ?_⟩
  rw[l]
  exact (rel.val k).getD rd
 ·subst ey
  cases (show u=B1 b from ry)
  obtain ⟨z,hd,xs,rel,dd⟩:=qA I.hok e
  refine DL gM dd.typeIs tE (sY _ _ _) (meetsH_dict_get_default (dE (P4 X.prog X.w)) a b hd r) ⟨gv hu,k,xs,lz I.hok eb,dd,h _ _ (I.tok _) ?_⟩
  rw[l]
  exact (rel.val k).getD rd
end
noncomputable def Gq (td ty tx:TE):TE:=fun σ H Q=>td σ H fun x H1=>∃a,x=.ref a/\IsD H1 a/\ty σ H1 fun y H2=>tx σ H2 fun z H3=>∃o,jC H3 a y o/\Q (o.getD z) H3
section
variable {X:Cx}{o e f:Expr}{apos cpos:Pos}{td ty tx:TE}
theorem Bx (hu:X.A.units+1<jk) (ho:PE X o td) (he:PE X e ty) (hf:PE X f tx) (m:M2 X o "get" apos e f cpos):PE X (.Call (.Attribute o "get" apos) [e,f] [] cpos) (Gq td ty tx):=by
 intro pins s σ H Q I h
 refine wpAny_Call_method m.base m.few m.line sX gM PySem.F.type_dict_get (Q9 (ho pins s σ H _ I h) fun u s1 ⟨x,H1,I1,rx,a,ex,d,q1⟩=>?_)
 subst ex
 obtain rfl:u=B1 a:=rx
 obtain ⟨t1,t2,_⟩:=HV I1 d
 refine ⟨t1,t2,?_⟩
 rw[m.trees]
 refine bA rfl (cL (kQ (Q9 (he pins s1 σ H1 _ I1 q1) fun iv s2 ⟨y,H2,I2,ry,q2⟩ =>
  kQ (Q9 (hf pins s2 σ H2 _ I2 q2) fun fv s3 ⟨z,H3,I3,rz,ov,g,q3⟩=>Dw ?_))))
 exact Ih hu I3 g ry rz fun w' s4 I4 rw'=>⟨_,H3,I4,rw',q3⟩
end
section
variable {X:Cx}{pins:List (Addr × Obj)}{σ:St}{H:Hp}{s:d7}{a:Addr}{kvs:List (V0 × V)}{A:v7}{E:d6->d7->Prop}
end
section
variable {X:Cx}{pins:List (Addr × Obj)}{σ:St}{H:Hp}{s:d7}{a:Addr}{y:V}{u:d6}{A:v7}{E:d6->d7->Prop}
end
end L2
namespace Att
open PySem PySem.W PySem.Calls PyProof.Rows
section
variable {prog:j9}{w:t9}{A:v7}{E:d6->d7->Prop}{s:d7}{K:Frag}
end
end Att
namespace L2
open PySem PySem.Spec PyProof.Rows
section
variable {P:j9}{w:t9}{K:m9}{mg:Str->Option d6}{base:Heap}
end
section
variable {X:Cx}
end
section
variable {κ:Type} [DecidableEq κ]
end
section
variable {prog:j9}{w:t9}{A:v7}{E:d6->d7->Prop}{s:d7}
structure EnT (h:Heap) (e it t:Addr) (k:Nat):Prop where
 en:∃old,IsEnum h e it k old
 it:h.IsTupleIter it t k
end
section
variable {X:Cx}{pins:List (Addr × Obj)}{σ:St}{H:Hp}{s:d7}
theorem C6.yieldPair {h2:Heap}{t':Nat}{fp:List Addr}{x y:V}{u v:d6} (I:C6 X pins σ H s) (hf:∀b∈fp,mw X pins H b) (k2:∀c o,c ∉ fp->s.heap.get? c=some o->h2.get? c=some o)
  (e0:h2.get? s.heap.objs.size=some { cls:=.type "tuple",data:=.seq #[u,v] }) (ru:G8 x u) (rv:G8 y v):C6 X pins σ (t6 H s.heap.objs.size (.tup [x,y])) { s with heap:=h2,toks:=t' }:=by
 have hn:H s.heap.objs.size=none:=I.hok.fresh (i9 _)
 have pne:∀c o,s.heap.get? c=some o->c≠s.heap.objs.size:=fun c o e=>w9 (m7 e)
 have nit:∀c u,H c=some u->c ∉ fp:=fun c u e q=>by rw[(hf c q).1] at e;cases e
 have hok:bh X.prog X.w (t6 H s.heap.objs.size (.tup [x,y])) h2:=fun c ob e=>by
  by_cases hq:c=s.heap.objs.size
  ·subst hq
   rw[f6] at e;cases e
   exact ⟨⟨by show 2<=i7;decide,_,e0,rfl⟩,[u,v],.cons ru (.cons rv .nil),⟨_,e0,rfl,_,rfl⟩⟩
  ·rw[B6 hq] at e
   refine (I.hok c ob e).stay (fun d w' hd q=>k2 d w' ?_ q) (fun d q=>by rw[B6 (v8 q hn)];exact q) fun d xs q=>by rw[B6 (v8 q hn)];exact q
   rcases hd with rfl|hd
   ·exact nit d ob e
   ·exact nit d _ hd
 refine I.step (g':=s.gens) (d':=s.drawn) (t':=t') (ch:=fp) (fun c hc=>⟨(hf c hc).2.2.2.1,(hf c hc).2.1,(hf c hc).2.2.2.2.1,(hf c hc).2.2.2.2.2⟩) (fun c o _ _ hc e _=>k2 c o hc e) (fun c o _ _ hc e _=>⟨o.slots,k2 c o hc e⟩)
  (fun c o _ e n=>by rw[B6 (pne c o e)];exact n) (fun c o hc e=>⟨o,k2 c o hc e⟩) (fun c xs e=>by rw[B6 (v8 e hn)];exact e) (fun c o u e=>by rw[B6 (v8 e hn)];exact e) (fun c ps e=>⟨#[],by rw[B6 (v8 e hn),e];simp⟩) (fun m hm=>?_) hok I.bare
 obtain ⟨o,es,ep,ho,r⟩:=hm
 exact ⟨o,es,ep,k2 _ o (fun q=>(hf _ q).2.1 rfl) ho,r⟩
end
section
variable {prog:j9}{w:t9}{A:v7}{E:d6->d7->Prop}{s:d7}
variable {d:Addr}{Q:d6->d7->Prop}
theorem wQ (hd:(d == W0)=false) (hT:s.TypeIs (.ref d) "dict") (h:Q (.ref s.heap.objs.size) { s with heap:=s.heap.push { cls:=.type "dict_items",data:=.fields #[.ref d] } }):
  r0 (y6 prog w) A (call (.builtin "dict.items") [.ref d]) Q E s:=by
 have g:MeetsIn prog w (bI.«dict.items» ⟨[.ref d],[]⟩) (fun _ R s=>s.TypeIs (.ref d) "dict"/\R (.ok (.ret (.ref s.heap.objs.size))) { s with heap:=s.heap.push { cls:=.type "dict_items",data:=.fields #[.ref d] } }):=
  .of_wp fun A R s ⟨hm,h⟩=>by
   unfold bI.«dict.items»
   refine b8 ?_
   unfold Builtin.Dict.noArgs
   refine b8 (wpAny_notOrdered_dict hm ?_)
   show r0 _ _ (pure d) _ _ s
   refine i8 ?_
   show r0 _ _ (pj d >>= _) _ _ s
   unfold pj
   rw[if_neg (by rw[hd];exact A3)]
   refine b8 (i8 ?_)
   exact b8 (C9 (i8 ⟨_,rfl,h⟩))
 exact DL sV hT PySem.F.entry_dict_items (PySem.F.args_dict_items_1 _) g ⟨hT,h⟩
variable {od:Obj}{es:Array dJ}{ep:Nat}
theorem uE {v:Addr}(hv:s.heap.IsItemsView v d) (ho:s.heap.get? d=some od) (hdat:od.data=.dict es ep)
  (hQ:Q (.ref s.heap.objs.size) { s with heap:=s.heap.push { cls:=.type "dict_itemiterator",data:=.fields #[.none,.bool false,.ref d,.int 0 0,.int es.size 0,.int ep 0,.none,.none] } }):
  r0 (y6 prog w) A (oW (.ref v)) Q E s:=by
 obtain ⟨ov,hov,hcv,hdv⟩:=id hv
 refine Ky hv.typeIs Ay (M7 Ay hv.typeIs F.entry_dict_items_iter ?_ (F.args_dict_items_iter_1 _))
 unfold bI.«dict_items.__iter__»
 refine b8 (i8 ?_)
 refine b8 ?_
 unfold Builtin.Dict_items.dictOf
 refine b8 (D3 hov hdv (x:=.ref d) rfl (i8 ?_))
 refine b8 ?_
 unfold Builtin.Dict_items.newIterator
 refine b8 (qP ho hdat ?_)
 refine b8 (vK ho hdat ?_)
 have hown:aG "dict_itemiterator"=true:=by decide
 simp only[hown,if_true]
 refine C9 (i8 ⟨_,rfl,"dict_itemiterator",_,⟨_,q9 _ rfl,rfl⟩,F.slot_dict_itemiterator_next.lookup,?_⟩)
  (by simp only[sizeOk,eL,n6,t8,r6,T7,S6];lia)
 simpa [bQ,eL] using hQ
variable {it:Addr}{i:Nat}{ov:d6}
theorem uF {en:dJ}{ok:d6}{Q:Option d6->d7->Prop} (hit:bT s.heap it d i es.size ep ok ov)
  (hod:s.heap.get? d=some od) (hdd:od.data=.dict es ep) (hx:es[i]?=some en)
  (hQ:∀h',Ax h' it d (i+1) es.size ep en.key en.val s.heap.objs.size->h'.get? s.heap.objs.size=some { cls:=.type "tuple",data:=.seq #[en.key,en.val] }->h'.objs.size=s.heap.objs.size+1 ->
   (∀b o,b≠it->s.heap.get? b=some o->h'.get? b=some o)->Q (some (.ref s.heap.objs.size)) { s with heap:=h' }):r0 (y6 prog w) A (jI (.ref it)) Q E s:=by
 obtain ⟨hp,g,dr,tk,os⟩:=s
 have hT:FX ⟨hp,g,dr,tk,os⟩ (.ref it) "dict_itemiterator":=⟨_,hit,rfl⟩
 unfold jI
 refine b8 (bt (G2 (name:=U3 "__next__") hT Y1
  (M7 Y1 hT rh ?_ (pR _))))
 refine b8 (i8 ?_)
 refine b8 ?_
 refine b8 ?_
 first|refine b8 (X4 hT (i8 ?_))|refine b8 (aR hT (i8 ?_))
 refine b8 (wpAny_fieldsOf hit rfl ?_)
 have hown:aG "dict_itemiterator"=true:=by decide
 simp only[hown,if_true]
 show r0 _ _ (if (B1 d == D9)=true then _ else _) _ _ _
 rw[if_neg (show ¬ ((B1 d == D9)=true) from A3)]
 refine b8 (i8 ?_)
 refine b8 (qP hod hdd ?_)
 rw[if_neg (by simp)]
 refine b8 (i8 ?_)
 refine b8 (vK hod hdd ?_)
 rw[if_neg (by simp)]
 refine i8 ?_
 obtain ⟨hlt',hen⟩:=Array.getElem?_eq_some_iff.mp hx
 simp only[show ¬ ((i:Int)<0) from by lia,if_false,Q8,hx]
 refine b8 ?_
 first|refine b8 (X4 hT (i8 ?_))|refine b8 (aR hT (i8 ?_))
 refine b8 (jH hT ?_)
 show r0 _ _ (setField (.ref it) 3 (bQ ((i:Int)+1)) >>= _) _ _ ⟨hp,g,dr,tk,os⟩
 refine b8 (L7 hit (by simp) fun h1 he1 s1=>?_)
 replace s1:R6 it hp h1:=s1
 replace he1:bT h1 it d (i+1) es.size ep ok ov:=by
  have e:((i+1:Nat):Int)=(i:Int)+1:=by lia
  unfold bT;rw[e];simpa [bQ] using he1
 have hT1:FX ⟨h1,g,dr,tk,os⟩ (.ref it) "dict_itemiterator":=⟨_,he1,rfl⟩
 refine b8 (O5 ?_)
 refine b8 (jH hT1 ?_)
 refine b8 (jH hT1 ?_)
 show r0 _ _ (fZ (.ref it) 6 en.key en.val) _ _ ⟨h1,g,dr,tk,os⟩
 unfold fZ
 refine b8 (yJ ?_)
 have he2:bT (h1.push { cls:=.type "tuple",data:=.seq #[en.key,en.val] }) it d (i+1) es.size ep ok ov:=f9 _ he1
 generalize hh2:h1.push { cls:=.type "tuple",data:=.seq #[en.key,en.val] }=h2 at he2
 have hz1:h1.objs.size=hp.objs.size:=s1.1
 have hil:it<hp.objs.size:=m7 hit
 have ht2:h2.get? hp.objs.size=some { cls:=.type "tuple",data:=.seq #[en.key,en.val] }:=by rw[<- hh2,<- hz1];exact q9 _ rfl
 have hz2:h2.objs.size=hp.objs.size+1:=by rw[<- hh2,G9,hz1]
 have hk2:∀b o,b≠it->hp.get? b=some o->h2.get? b=some o:=fun b o hb e=>by rw[<- hh2];exact f9 _ (s1.extBut b o hb e)
 show r0 _ _ (eK (.ref it) >>= _) _ _ ⟨h2,g,dr,tk,os⟩
 rw[hz1]
 clear hh2 he1 s1 hT1 hz1 h1
 refine b8 ?_
 unfold eK
 refine b8 (D3 he2 rfl (x:=.none) rfl (i8 ?_))
 simp only[if_true]
 refine b8 (D3 he2 rfl (x:=ok) rfl ?_)
 refine b8 (D3 he2 rfl (x:=ov) rfl ?_)
 refine b8 (L7 he2 (by simp) fun h3 he3 s3=>?_)
 replace s3:R6 it h2 h3:=s3
 replace he3:bT h3 it d (i+1) es.size ep en.key ov:=he3
 refine b8 (L7 he3 (by simp) fun h4 he4 s4=>?_)
 replace s4:R6 it h3 h4:=s4
 replace he4:bT h4 it d (i+1) es.size ep en.key en.val:=he4
 refine b8 (L7 he4 (by simp) fun h5 he5 s5=>?_)
 replace s5:R6 it h4 h5:=s5
 replace he5:Ax h5 it d (i+1) es.size ep en.key en.val hp.objs.size:=he5
 refine b8 (L7 he5 (by simp) fun h6 he6 s6=>?_)
 replace s6:R6 it h5 h6:=s6
 replace he6:Ax h6 it d (i+1) es.size ep en.key en.val hp.objs.size:=he6
 refine b8 (FT (i8 (i8 ⟨_,rfl,i8 (hQ h6 he6 ?_ ?_ ?_)⟩)))
 ·exact s6.extBut _ _ (G6 hil) (s5.extBut _ _ (G6 hil) (s4.extBut _ _ (G6 hil) (s3.extBut _ _ (G6 hil) ht2)))
 ·show h6.objs.size=hp.objs.size+1
  rw[s6.1,s5.1,s4.1,s3.1,hz2]
 ·exact fun b o hb e=>s6.extBut b o hb (s5.extBut b o hb (s4.extBut b o hb (s3.extBut b o hb (hk2 b o hb e))))
theorem wR {ok:d6}{Q:Option d6->d7->Prop} (hh:A.handled=none) (hit:bT s.heap it d i es.size ep ok ov)
  (hod:s.heap.get? d=some od) (hdd:od.data=.dict es ep) (hge:es.size<=i) (hQ:∀h',Ac it s.heap h'->Q none { s with heap:=h' }):r0 (y6 prog w) A (jI (.ref it)) Q E s:=by
 have hT:s.TypeIs (.ref it) "dict_itemiterator":=⟨_,hit,rfl⟩
 unfold jI
 refine b8 (bt (G2 (name:=U3 "__next__") hT Y1
  (M7 Y1 hT rh ?_ (pR _))))
 refine b8 (i8 ?_)
 refine b8 ?_
 refine b8 ?_
 first|refine b8 (X4 hT (i8 ?_))|refine b8 (aR hT (i8 ?_))
 refine b8 (wpAny_fieldsOf hit rfl ?_)
 have hown:aG "dict_itemiterator"=true:=by decide
 simp only[hown,if_true]
 show r0 _ _ (if (B1 d == D9)=true then _ else _) _ _ s
 rw[if_neg (show ¬ ((B1 d == D9)=true) from A3)]
 refine b8 (i8 ?_)
 refine b8 (qP hod hdd ?_)
 rw[if_neg (by simp)]
 refine b8 (i8 ?_)
 refine b8 (vK hod hdd ?_)
 rw[if_neg (by simp)]
 refine i8 ?_
 simp only[show ¬ ((i:Int)<0) from by lia,if_false,Q8,Array.getElem?_eq_none hge]
 refine b8 ?_
 first|refine b8 (X4 hT (i8 ?_))|refine b8 (aR hT (i8 ?_))
 show r0 _ _ (setField (.ref it) 2 .none >>= _) _ _ s
 refine b8 (cJ hit rfl (by simp) ?_)
 show r0 _ _ (newExc (.type "StopIteration") [] >>= _) _ _ _
 refine b8 ?_
 simp only[newExc,newTuple]
 refine b8 (C9 ?_ (by size_fits))
 refine b8 (m:=mf _ _) (FS (a:=D9) (by first|rfl | (simp only[mf];rfl)) ?_)
 refine C9 ?_ (by size_fits)
 simp only[raiseNew]
 refine b8 (wpAny_handled ?_)
 rw[show A.in1.handled=none from hh]
 refine b8 (i8 (wpAny_throw ?_))
 refine b8 (KQ (T:="StopIteration") (b:=true) ⟨_,q9 _ rfl,rfl⟩ isSubtype_stop ?_)
 exact i8 (hQ _ (((Y8 ..).extBut.push _).push _))
theorem jb:entryFor table "dict_itemiterator.__iter__"=some bI.«dict_keyiterator.__iter__»:=entryFor_alias (id':="dict_keyiterator.__iter__") (by kernel_rfl) rfl (by decide +kernel) (by kernel_rfl)
theorem pH {n:Nat}{ok:d6}(h:bT s.heap it d i n ep ok ov) (q:Q (.ref it) s):r0 (y6 prog w) A (oW (.ref it)) Q E s:=by
 have hT:s.TypeIs (.ref it) "dict_itemiterator":=⟨_,h,rfl⟩
 refine Ky hT tf (M7 tf hT jb ?_ (F.args_dict_itemiterator_iter_1 _))
 exact i8 ⟨_,rfl,"dict_itemiterator",_,hT,F.slot_dict_itemiterator_next.lookup,q⟩
end
section
variable {X:Cx}{pins:List (Addr × Obj)}{σ:St}{H:Hp}{s:d7}
noncomputable def Km (d:Addr) (o:Obj) (kvs:List (List V0 × V)):It :=
 ⟨fun i H=>H d=some (.frz o (.dT kvs))/\i<kvs.length,fun i H v H'=>∃p ka k x,H p=none/\v=.ref p/\H'=t6 H p (.tup [.ref ka,x])/\kvs[i]?=some (k,x)/\H ka=some (.tup (k.map kV)),fun i H=>H d=some (.frz o (.dT kvs))/\kvs.length<=i⟩
theorem Paired.get {α β:Type}{F:α->β->Prop}:∀{l:List α}{m:List β}{i:Nat}{a:α},yT F l m->l[i]?=some a->∃b,m[i]?=some b/\F a b
 | _::_,_::_,0,_,.cons r _,h=>by cases h;exact ⟨_,rfl,r⟩
 | _::_,_::_,i+1,_,.cons _ t,h=>by
  obtain ⟨b,e,r⟩:=Paired.get (i:=i) t (by simpa using h)
  exact ⟨b,by simpa using e,r⟩
variable {d:Addr}{kvs:List (List V0 × V)}
theorem C6.frzT {o:Obj}{es:Array dJ}{ep:Nat} (I:C6 X pins σ H s) (e:H d=some (.frz o (.dT kvs))) (hd:o.data=.dict es ep):
  s.heap.get? d=some o/\es.size=kvs.length/\∀(i:Nat) (k:List V0) (x:V),kvs[i]?=some (k,x)->∃(ka:Addr) (u:d6) (en:dJ),es[i]?=some en/\en.key=.ref ka/\en.val=u/\H ka=some (.tup (k.map kV))/\G8 x u:=by
 obtain ⟨h1,_,_,xs,r,o',es',ep',h2,_,h3,h4,_⟩:=(show N9 X.prog X.w H s.heap d (.frz o (.dT kvs)) from I.hok d _ e)
 rw[h1] at h2
 cases h2
 rw[hd] at h3
 cases h3
 have hl:es.size=kvs.length:=by
  rw[<- U8,h4,b9];exact (fb r).symm
 refine ⟨h1,hl,fun i k x hx=>?_⟩
 obtain ⟨q,hq,f1,f2,f3⟩:=Paired.get r hx
 refine ⟨q.2.1,q.2.2,entryOfKey (dE (P4 X.prog X.w)) q,?_,rfl,rfl,f2,f3⟩
 rw[<- xp,h4,n8,hq];rfl
theorem vR {P:j9}{w:t9}{K:m9}{els:List Expr}{kk:Nat}{pos:Pos}{it:Addr}{o:Obj}{es:Array dJ}{ep:Nat} (hd:o.data=.dict es ep):
  vi P w K (.Tuple els kk pos) (Km d o kvs) [it] it (fun i h=>∃ok ov,bT h it d i es.size ep ok ov) where
 mem:=by simp
 obj:=fun i h st c hc=>by
  obtain ⟨ok,ov,he⟩:=st
  simp only[C1,C0,or_false] at hc
  subst hc
  exact ⟨_,he,fun v q=>by cases q⟩
 keep:=fun i h h' st k=>let ⟨ok,ov,he⟩:=st;⟨ok,ov,k _ (by simp) _ he⟩
 item:=by
  intro X hP hw hK hc i pins s σ H E I hf st hg
  subst hP hw hK
  obtain ⟨hF,hi⟩:=hg
  obtain ⟨ok,ov,he⟩:=st
  obtain ⟨h1,hsz,hget⟩:=I.frzT hF hd
  obtain ⟨⟨k,x⟩,hkx⟩:∃kx,kvs[i]?=some kx:=⟨_,d9 hi⟩
  obtain ⟨ka,u,en,e1,e2,e3,e4,ru⟩:=hget i k x hkx
  refine uF he h1 hd e1 fun h' z1 new sz keep=>?_
  rw[e2,e3] at z1 new
  refine ⟨_,rfl,wpAny_letOwnedTupleGo_items (s:={ s with heap:=h' }) z1 fun h2 z2 sb=>?_⟩
  have ilt:it<s.heap.objs.size:=m7 he
  have k2:∀c o,c ∉ [it]->s.heap.get? c=some o->h2.get? c=some o:=fun c o hc q=>sb.extBut _ _ (fun z=>hc (by simp[z])) (keep c o (fun z=>hc (by simp[z])) q)
  have e0:h2.get? s.heap.objs.size=some { cls:=.type "tuple",data:=.seq #[.ref ka,u] }:=sb.extBut _ _ (G6 ilt) new
  have hn:H s.heap.objs.size=none:=I.hok.fresh (i9 _)
  refine ⟨.ref s.heap.objs.size,_,I.yieldPair (t':=s.toks) (x:=.ref ka) (y:=x) hf k2 e0 rfl ru,rfl,⟨_,ka,k,x,hn,rfl,rfl,hkx,e4⟩,⟨_,_,z2⟩,fun c hc=>?_⟩
  have hlt:c<s.heap.objs.size:=by
   simp only[C1,C0,or_false] at hc
   subst hc;exact ilt
  rw[B6 (w9 hlt)]
  exact (hf c hc).1
 done:=by
  intro X hP hw hK hc i pins s σ H E I hf st hg
  subst hP hw hK
  obtain ⟨hF,hi⟩:=hg
  obtain ⟨ok,ov,he⟩:=st
  obtain ⟨h1,hsz,_⟩:=I.frzT hF hd
  exact wR (I.ok.hd hc) he h1 hd (by lia) fun h' keep=>⟨rfl,I.turnedL (t':=s.toks) (ch:=[it]) (fun c o hc e=>keep c o (fun q=>hc (by simp[q])) e) hf⟩
 self:=fun _ _ _ _ _ st h=>let ⟨_,_,he⟩:=st;pH he h
theorem C6.freeze (I:C6 X pins σ H s) (e:H d=some (.dT kvs)):∃o es ep,o.data=.dict es ep/\s.heap.get? d=some o/\C6 X pins σ (t6 H d (.frz o (.dT kvs))) s:=by
 have ok:=(show N9 X.prog X.w H s.heap d (.dT kvs) from I.hok d _ e)
 obtain ⟨_,_,_,_,o,es,ep,ho,_,hd,_⟩:=id ok
 refine ⟨o,es,ep,hd,ho,?_⟩
 have tup:∀b xs,H b=some (.tup xs)->t6 H d (.frz o (.dT kvs)) b=some (.tup xs):=fun b xs q=>by
  rw[B6 (qm q e (by intro z;cases z))];exact q
 have own:∀b c,H b=some (.own c)->t6 H d (.frz o (.dT kvs)) b=some (.own c):=fun b c q=>by
  rw[B6 (qm q e (by intro z;cases z))];exact q
 have:=I.step (H':=t6 H d (.frz o (.dT kvs))) (h':=s.heap) (g':=s.gens) (d':=s.drawn) (t':=s.toks) (ch:=[]) (fun _ z=>nomatch z) (fun b o _ _ _ q _=>q) (fun b o _ _ _ q _=>⟨o.slots,q⟩)
  (fun b o _ _ n=>by
   by_cases hb:b=d
   ·subst hb;rw[e] at n;cases n
   ·rw[B6 hb];exact n) (fun b o _ q=>⟨o,q⟩) tup (fun b o u q=>by rw[B6 (qm q e (by intro z;cases z))];exact q) (fun b ps q=>⟨#[],by rw[B6 (qm q e (by intro z;cases z)),q];simp⟩) (fun m hm=>hm)
  (fun b ob q=>by
   by_cases hb:b=d
   ·subst hb
    rw[f6] at q;cases q
    exact ⟨ho,ok.stay (fun c v _ q=>q) (fun c q=>own c _ q) tup⟩
   ·rw[B6 hb] at q
    exact (I.hok b ob q).stay (fun c v _ q=>q) (fun c q=>own c _ q) tup) I.bare
 exact this
noncomputable def HY (td:TE):TI:=fun σ H R=>td σ H fun x H1=>∃d kvs,x=.ref d/\H1 d=some (.dT kvs)/\∀o,R (Km d o kvs) (t6 H1 d (.frz o (.dT kvs)))
theorem Bu {e:Expr}{els:List Expr}{kk:Nat}{pt apos cpos:Pos}{td:TE} (ho:PE X e td) (hbase:iT e "items" X.env (eval e X.env)=eval e X.env:=by rfl) (hline:(apos.endLine == cpos.line)=true:=by rfl):
  PI X (.Tuple els kk pt) (.Call (.Attribute e "items" apos) [] [] cpos) (HY td):=by
 intro pins s σ H R I h
 refine wpAny_Call_method0_late hbase hline (Q9 (ho pins s σ H _ I h) fun v s1 ⟨x,H1,I1,r1,d,kvs,ex,hd,q⟩=>?_)
 subst ex
 cases r1
 obtain ⟨o,es,ep,hdat,hob,I2⟩:=I1.freeze hd
 obtain ⟨_,hsys,_,_,o',_,_,hob',hex,_⟩:=(show N9 X.prog X.w H1 s1.heap d (.dT kvs) from I1.hok d _ hd)
 rw[hob] at hob'
 cases hob'
 refine ⟨"dict","dict.items",sX,sV,PySem.F.type_dict_items,⟨o,hob,hex.1⟩,fun a e=>by cases e;exact ⟨o,hob,hex.2.1⟩,bA rfl (PySem.evalArgs_none ?_)⟩
 refine wQ hsys ⟨o,hob,hex.1⟩ ?_
 refine uE (s:={ s1 with heap:=s1.heap.push { cls:=.type "dict_items",data:=.fields #[.ref d] } }) ⟨_,q9 _ rfl,rfl,rfl⟩ (f9 _ hob) hdat ?_
 have I3:C6 X pins σ (t6 H1 d (.frz o (.dT kvs))) { s1 with heap:=s1.heap.push { cls:=.type "dict_items",data:=.fields #[.ref d] } }:=I2.kept (t':=s1.toks) fun b o e=>f9 _ e
 refine ⟨_,[_],_,_,t6 H1 d (.frz o (.dT kvs)),rfl,I3.kept (t':=s1.toks) fun b o e=>f9 _ e,vR hdat,⟨_,_,q9 _ rfl⟩,fun b hb=>?_,q o⟩
 have e:b=(s1.heap.push { cls:=.type "dict_items",data:=.fields #[.ref d] }).objs.size:=by simpa using hb
 subst e
 exact I3.fpOk (i9 _) (I3.hok.fresh (i9 _))
end
section
variable {X:Cx}
noncomputable def tDT1 (tk tv:TE):TE:=fun σ H Q=>∀p,H p=none->tk σ (t6 H p (.dT [])) fun y H1=>tv σ H1 fun x H2=>H2 p=some (.dT [])/\∃b ks,y=.ref b/\H2 b=some (.tup (ks.map kV))/\Q (.ref p) (t6 H2 p (.dT [(ks,x)]))
theorem GR {k v:Expr}{tk tv:TE}{pos:Pos} (hu:X.A.units+1<jk) (hk:PE X k tk) (hv:PE X v tv):PE X (.Dict [some k] [v] pos) (tDT1 tk tv):=by
 intro pins s σ H Q I q
 have hn:=I.hok.fresh (i9 s.heap.objs.size)
 have I1:=I.laid (a:=s.heap.objs.size) (o:=.dT []) (h':=s.heap.push { cls:=.type "dict",data:=.dict #[] }) (t':=s.toks) (fun _ _ q=>f9 _ q) (i9 _) (uP s.heap I.big)
 refine wpAny_Dict_any rfl rfl (by simp) (by simp) (pairTrees_cons_walk (Q9 (hk pins _ σ _ _ I1 (q _ hn)) fun u s1 ⟨y,H1,I2,ry,q1⟩=>Q9 (hv pins s1 σ H1 _ I2 q1) fun r s2 ⟨x,H2,I3,rx,e,b,ks,ey,eb,q2⟩=>pairTrees_nil_walk ?_))
 subst ey
 cases ry
 unfold storeAll
 rw[dA]
 obtain ⟨z,hd,xs,rel,dd⟩:=FM I3.hok e
 have hz:xs.length<=i7:=by rw[<- fb rel];exact z
 refine b8 (b8 (wpAny_dictSet_heap (hsz:=hz) (knd:=dE (P4 X.prog X.w)) (show (dE (P4 X.prog X.w)).room X.A from Nat.lt_of_succ_lt hu) (lz I3.hok eb) dd fun h' dd' hs=>i8 ?_))
 show r0 _ _ (forIn [] PUnit.unit _) _ _ _
 rw[eE]
 refine i8 ⟨.ref s.heap.objs.size,_,?_,rfl,q2⟩
 obtain ⟨qo,es,ep,hq,h2,h3,h4,_,h5⟩:=dd'
 refine sM I3 (by rw[e];exact U4) hs ⟨qo,hq⟩ ⟨by show 1<=i7;decide,hd,_,(rel.put ks eb rx).keeps fun c ys ec=>?_,qo,es,ep,hq,h2,h3,h4,h5⟩
 rw[B6 (qm ec e (fun z=>nomatch z))]
 exact ec
end
section
theorem zG {d:Addr}{o:Obj}{kvs:List (List V0 × V)}{g:TG}{tb:TS}{D:kJ}{σ:St}{H:Hp} (Pv:Nat->St->Hp->Prop) (h0:Pv 0 σ H) (hl:∀i σ H,i<=kvs.length->Pv i σ H->H d=some (.frz o (.dT kvs)))
  (hs:∀i k x σ H p ka,kvs[i]?=some (k,x)->H p=none->H ka=some (.tup (k.map kV))->Pv i σ H->g (.ref p) σ (t6 H p (.tup [.ref ka,x])) fun σ2 H2=>tb { D with nx:=Pv (i+1),ct:=Pv (i+1),bk:=D.nx } σ2 H2) (hd:∀σ H,Pv kvs.length σ H->D.nx σ H):
  ∃W:Nat->Nat->St->Hp->Prop,(∃m,W 0 m σ H)/\∀i m σ H,W i m σ H ->
   ((Km d o kvs).stop i H/\D.nx σ H) ∨ ((Km d o kvs).go i H/\∃N:St->Hp->Prop,(∀σ' H',N σ' H'->∃m',m'<m/\W (i+1) m' σ' H')/\∀x H',(Km d o kvs).yld i H x H'->g x σ H' fun σ2 H2=>tb { D with nx:=N,ct:=N,bk:=D.nx } σ2 H2):=by
 refine ⟨fun i m σ H=>m=kvs.length - i/\i<=kvs.length/\Pv i σ H,⟨kvs.length,by simp,u9 _,h0⟩,?_⟩
 rintro i m σ H ⟨rfl,hi,p⟩
 have q:=hl i σ H hi p
 rcases Lb i kvs.length with h|h
 ·refine .inr ⟨⟨q,h⟩,Pv (i+1),fun σ' H' p'=>⟨_,by lia,rfl,by lia,p'⟩,fun x H' y=>?_⟩
  obtain ⟨pp,ka,k,x',hp,rfl,rfl,hx,hk⟩:=y
  exact hs i k x' σ H pp ka hx hp hk p
 ·have e:i=kvs.length:=by lia
  subst e
  exact .inl ⟨⟨q,i9 _⟩,hd σ H p⟩
theorem wk2 {σ0:St} (hσ:σ0[0]?=some none/\σ0[1]?=some none) (x y:V):Wk σ0 ((σ0.set 0 (some x)).set 1 (some y)):=by
 refine ⟨by simp,fun j u e=>?_⟩
 by_cases h1:j=1
 ·subst h1;rw[hσ.2] at e;cases e
 ·rw[K4 (M3 h1)]
  by_cases h2:j=0
  ·subst h2;rw[hσ.1] at e;cases e
  ·rw[K4 (M3 h2)];exact e
end
end L2
namespace Mt
noncomputable def fr (q:Rat):List Int:=[q.num,(q.den:Int)]
noncomputable def cut (t b:Int):Rat:=mkRat t b.toNat
variable {b:Int}
theorem sN {t:Int} (hb:0<b):(cut t b).num=t / (R8 t b:Int):=by
 have h:b.toNat≠0:=by lia
 unfold cut
 rw[lI,dif_neg h,Rat.num_normalize]
 have e:b.toNat=b.natAbs:=by lia
 rw[e];rfl
theorem yw {t:Int} (hb:0<b):((cut t b).den:Int)=b / (R8 t b:Int):=by
 have h:b.toNat≠0:=by lia
 unfold cut
 rw[lI,dif_neg h,Rat.den_normalize]
 have e:b.toNat=b.natAbs:=by lia
 rw[e,Int.natCast_ediv]
 have e2:((b.natAbs:Nat):Int)=b:=by lia
 rw[e2];rfl
theorem Cr {t:Int} (hb:0<b):fr (cut t b)=[t / (R8 t b:Int),b / (R8 t b:Int)]:=by
 unfold fr;rw[sN hb,yw hb]
theorem yu (p q:Rat):cut (p.num*q.num) ((p.den:Int)*(q.den:Int))=p*q:=by
 unfold cut
 rw[Rat.mul_def,lI]
 have e:((p.den:Int)*(q.den:Int)).toNat=p.den*q.den:=by rw[<- aW];rfl
 have hp:=p.den_nz;have hq:=q.den_nz
 have h:p.den*q.den≠0:=IB hp hq
 rw[dif_neg (by rw[e];exact h)]
 congr 1
theorem yx (p q:Rat):cut (p.num*(q.den:Int)+q.num*(p.den:Int)) ((p.den:Int)*(q.den:Int))=p+q:=by
 unfold cut
 rw[Rat.add_def,lI]
 have e:((p.den:Int)*(q.den:Int)).toNat=p.den*q.den:=by rw[<- aW];rfl
 have hp:=p.den_nz;have hq:=q.den_nz
 have h:p.den*q.den≠0:=IB hp hq
 rw[dif_neg (by rw[e];exact h)]
 congr 1
structure Bd (n:Nat) (q:Rat):Prop where
 num:q.num.natAbs<=2 ^ n
 den:q.den<=2 ^ n
theorem iq (a:Int) (g:Nat):(a / (g:Int)).natAbs<=a.natAbs:=by
 rcases Nat.eq_zero_or_pos g with h|h
 ·subst h;simp
 ·have h0:(0:Int)<g:=by lia
  rcases Int.le_total 0 a with ha|ha
  ·have h1:0<=a / (g:Int):=IC ha (by lia)
   have h2:a / (g:Int)<=a:=Int.ediv_le_self _ ha
   lia
  ·have h1:a<=a / (g:Int):=by
    rw[Int.le_ediv_iff_mul_le h0]
    have:a*(g:Int)<=a*1:=Int.mul_le_mul_of_nonpos_left ha (by lia)
    lia
   have h2:a / (g:Int)<=0:=by
    have:=Int.ediv_le_ediv h0 ha
    simpa using this
   lia
theorem Bd.cut {t b:Int}{n:Nat} (hb:0<b) (h1:t.natAbs<=2 ^ n) (h2:b.natAbs<=2 ^ n):Bd n (Mt.cut t b):=by
 refine ⟨?_,?_⟩
 ·rw[sN hb];exact m8 (iq _ _) h1
 ·have:=yw (t:=t) hb
  have l:=iq b (R8 t b)
  lia
noncomputable def oE:List Int->List Int->List Int:=xm (·+·)
noncomputable def AL (ns:List Int) (k:Nat):Rat:=cut (ns.getD k 0) ns.sum
structure mv (n m:Nat) (ns:List Int):Prop where
 len:ns.length=n
 nn:∀x∈ns,0<=x/\x<=m
 pos:0<ns.sum
structure Dz (n m:Nat) (r:List Int):Prop where
 len:r.length=n
 nn:∀x∈r,0<=x/\x<=m
structure ma (n m:Nat) (rs:List (List Int)):Prop where
 len:rs.length=n
 row:∀r∈rs,Dz n m r
theorem ma.at {n m:Nat}{rs:List (List Int)} (h:ma n m rs) {k:Nat} (hk:k<n):Dz n m (rs.getD k []):=by
 have hk':k<rs.length:=by rw[h.len];exact hk
 have:rs.getD k []=rs[k]:=by rw[j6,d9 hk'];rfl
 rw[this];exact h.row _ (F7 hk')
theorem de:∀{l:List Int},(∀x∈l,0<=x)->0<=l.sum
 | [],_=>by simp
 | a::l,h=>by
  rw[K5]
  have h1:=h a i4
  have h2:=de fun x hx=>h x (f7 _ hx)
  lia
theorem sum_le {m:Int}:∀{l:List Int},(∀x∈l,x<=m)->l.sum<=m*(l.length:Int)
 | [],_=>by simp
 | a::l,h=>by
  rw[K5,r6]
  have h1:=h a i4
  have h2:=sum_le fun x hx=>h x (f7 _ hx)
  have e:m*((l.length+1:Nat):Int)=m*(l.length:Int)+m:=by rw[Int.natCast_add,Int.mul_add];simp
  lia
theorem kF:∀{a b:List Int},a.length=b.length->(oE a b).sum=a.sum+b.sum
 | [],[],_=>by simp[oE]
 | x::a,y::b,h=>by
  have ih:=kF (a:=a) (b:=b) (by simpa using h)
  show ((x+y)::oE a b).sum=_
  rw[K5,K5,K5,ih];lia
 | [],_::_,h=>by simp at h
 | _::_,[],h=>by simp at h
theorem vh:∀{a b:List Int}{x:Int},x∈oE a b->∃y∈a,∃z∈b,x=y+z
 | [],b,x,h=>by simp[oE] at h
 | _::_,[],x,h=>by simp[oE] at h
 | p::a,q::b,x,h=>by
  rcases List.mem_cons.mp (show x∈(p+q)::oE a b from h) with e|h
  ·exact ⟨p,i4,q,i4,e⟩
  ·obtain ⟨y,hy,z,hz,e⟩:=vh h
   exact ⟨y,f7 _ hy,z,f7 _ hz,e⟩
theorem mv.add {n m j:Nat}{ns r:List Int} (h:mv n m ns) (hr:Dz n j r):mv n (m+j) (oE ns r):=by
 have hl:ns.length=r.length:=by rw[h.len,hr.len]
 refine ⟨?_,fun x hx=>?_,?_⟩
 ·unfold oE;rw[kM,h.len,hr.len];lia
 ·obtain ⟨y,hy,z,hz,e⟩:=vh hx
  have:=h.nn y hy;have:=hr.nn z hz;lia
 ·rw[kF hl]
  have:=de (l:=r) fun x hx=>(hr.nn x hx).1
  have:=h.pos;lia
theorem mv.getD {n m:Nat}{ns:List Int} (h:mv n m ns) (k:Nat):0<=ns.getD k 0/\ns.getD k 0<=m:=by
 rw[j6]
 cases e:ns[k]? with
 | none=>simp
 | some x=>exact h.nn x (B0 e)
noncomputable def cz:List Rat->Rat
 | []=>0
 | q::r=>q+cz r
theorem dR:∀a b:List Rat,cz (a++b)=cz a+cz b
 | [],b=>by show cz b=0+cz b;grind
 | q::a,b=>by show q+cz (a++b)=q+cz a+cz b;rw[dR a b];grind
theorem ni {α:Type}{f g:α->Rat}:∀{l:List α},(∀a∈l,f a=g a)->cz (l.map f)=cz (l.map g)
 | [],_=>rfl
 | a::l,h=>by
  show f a+_=g a+_
  rw[h a i4,ni fun x hx=>h x (f7 _ hx)]
end Mt
namespace Md
open PySem PySem.Spec L2 Mt
noncomputable def kI (ns:List Int):List V0:=ns.map U2
theorem qw (ns:List Int):(kI ns).map kV=ns.map V.int:=by
 unfold kI;rw[X2];rfl
theorem jy:∀{a b:List Int},kI a=kI b->a=b
 | [],[],_=>rfl
 | [],_::_,h=>by cases h
 | _::_,[],h=>by cases h
 | x::a,y::b,h=>by
  have h':(U2 x:V0)::kI a=U2 y::kI b:=h
  injection h' with h1 h2
  injection h1 with h1
  rw[h1,jy h2]
noncomputable def jc (rs:List (List Int)) (i:Nat):List Int->Nat->Int
 | [],_=>0
 | c::cs,j=>c*(rs.getD j []).getD i 0+jc rs i cs (j+1)
noncomputable def N8 (u:List Int) (rs:List (List Int)) (c:List Int):List Int:=(D4 u.length).map fun i=>u.getD i 0+jc rs i c 0
noncomputable def inc (c:List Int) (i:Nat):List Int:=c.set i (c.getD i 0+1)
theorem uW (rs:List (List Int)) (i:Nat):∀(c:List Int) (j k:Nat),k<c.length->jc rs i (inc c k) j=jc rs i c j+(rs.getD (j+k) []).getD i 0
 | [],_,_,h=>by simp at h
 | x::c,j,0,_=>by
  show (x+1)*_+jc rs i c (j+1)=x*_+jc rs i c (j+1)+_
  rw[Int.add_mul];simp;lia
 | x::c,j,k+1,h=>by
  have ih:=uW rs i c (j+1) k (by simpa using h)
  show x*_+jc rs i (inc c k) (j+1)=x*_+jc rs i c (j+1)+_
  rw[ih,show j+1+k=j+(k+1) by lia];lia
theorem sT {n:Nat}{u c:List Int}{rs:List (List Int)}{k:Nat} (hu:u.length=n) (hc:c.length=n) (hR:ma n 5 rs) (hk:k<n):N8 u rs (inc c k)=oE (N8 u rs c) (rs.getD k []):=by
 have hr:=hR.at hk
 have l1:(N8 u rs c).length=n:=by unfold N8;simp[hu]
 apply fi
 intro i
 unfold oE
 rw[jd]
 unfold N8
 rw[n8,n8]
 by_cases hi:i<n
 ·rw[M6 (by lia)]
  rw[d9 (l:=rs.getD k []) (by rw[hr.len];exact hi)]
  simp only[Q6]
  rw[uW rs i c 0 k (by lia),ar]
  congr 1
  rw[show (rs.getD k []).getD i 0=(rs.getD k [])[i]'(by rw[hr.len];exact hi) by rw[j6 (l:=rs.getD k []),d9 (by rw[hr.len];exact hi)];rfl]
  lia
 ·rw[M8 (by simp;lia)]
  simp
theorem qD (rs:List (List Int)) (i:Nat):∀(n j:Nat),jc rs i (m6 n 0) j=0
 | 0,_=>rfl
 | n+1,j=>by
  show (0:Int)*_+jc rs i (m6 n 0) (j+1)=0
  rw[qD rs i n (j+1)];lia
theorem ve (u:List Int) (rs:List (List Int)) (n:Nat):N8 u rs (m6 n 0)=u:=by
 unfold N8
 apply fi
 intro i
 rw[n8]
 by_cases hi:i<u.length
 ·rw[M6 hi,Q6,qD,j6,d9 hi];simp
 ·rw[M8 (by simp;lia),M8 (by lia)];rfl
end Md
namespace L2
open PySem PySem.Spec PyProof.Rows
noncomputable abbrev lit (t:Addr):Obj:={ cls:=.type "list_iterator",data:=.fields #[.ref t,.int 0 0] }
section
variable {X:Cx}
noncomputable def Kl (K:m9) (a b:Addr):It :=
 ⟨fun i H=>∃xs ys x y,dC K H a xs/\aQ K H b ys/\xs[i]?=some x/\ys[i]?=some y,fun i H v H'=>∃p x y,H p=none/\v=.ref p/\H'=t6 H p (.tup [x,y])/\(∀xs,dC K H a xs->xs[i]?=some x)/\∀ys,aQ K H b ys->ys[i]?=some y,
  fun i H=>∃xs,dC K H a xs/\xs.length<=i⟩
end
section
variable {X:Cx}{K:m9}
noncomputable def FI (K:m9) (ta:TA):TI:=fun σ H R=>ta σ H fun vs H1=>∃a b xs ys,vs=[.ref a,.ref b]/\aQ K H1 b ys/\((aQ K H1 a xs/\R (Itz K a b) H1) ∨ (dC K H1 a xs/\R (Kl K a b) H1))
theorem Ei {e1 e2:Expr}{es:List Expr}{kk:Nat}{pt p pos:Pos}{ta:TA} (hg:Gl X "zip") (hm:X.mg "zip"=none) (ha:PA X [e1,e2] ta) (hs:w6 [e1,e2] X.env=[(false,eval e1 X.env),(false,eval e2 X.env)]:=by rfl) (hs2:w6 [e2] X.env=[(false,eval e2 X.env)]:=by rfl):
  PI X (.Tuple es kk pt) (.Call (.Name "zip" p) [e1,e2] [] pos) (FI X.K ta):=
 rV hg hm ha (fun I ⟨_,_,_,_,e,hy,hx⟩=>⟨_,_,e,hx.elim (fun h=>jM (p:=false) (q:=false) I h.1 hy (fun D=>iB D) h.2) fun h=>jM (p:=true) (q:=false) I h.1 hy (fun D=>iB D) h.2⟩) hs hs2
theorem uf (h:X.K=K) {e1 e2:Expr}{es:List Expr}{kk:Nat}{pt p pos:Pos}{ta:TA} (hg:Gl X "zip") (hm:X.mg "zip"=none) (ha:PA X [e1,e2] ta) (hs:w6 [e1,e2] X.env=[(false,eval e1 X.env),(false,eval e2 X.env)]:=by rfl) (hs2:w6 [e2] X.env=[(false,eval e2 X.env)]:=by rfl):
  PI X (.Tuple es kk pt) (.Call (.Name "zip" p) [e1,e2] [] pos) (FI K ta):=by subst h;exact Ei hg hm ha hs hs2
theorem CJ {a b:Addr}{xs ys:List V}{σ0:St}{te:TE}{H:Hp}{F:List V->Hp->Prop} (hn:xs.length<=i7) (hxy:xs.length=ys.length) (Pv:Nat->List V->Hp->Prop) (h0:Pv 0 [] H) (hl:∀i zs H,Pv i zs H->zs.length=i)
  (hq:∀i zs H,i<=xs.length->Pv i zs H->dC K H a xs/\aQ K H b ys) (hσ:σ0[0]?=some none/\σ0[1]?=some none)
  (hs:∀i zs H x y p,xs[i]?=some x->ys[i]?=some y->H p=none->Pv i zs H->te ((σ0.set 0 (some x)).set 1 (some y)) (t6 H p (.tup [x,y])) fun z H'=>Pv (i+1) (zs++[z]) H') (hd:∀zs H,Pv xs.length zs H->F zs H):
  Fe (Kl K a b) σ0 (Cq K 2 (oi (N7 0) (oi (N7 1) EN))) Q2 te H F:=by
 refine ⟨fun i m zs H=>m=xs.length - i/\i<=xs.length/\Pv i zs H,⟨xs.length,by simp,u9 _,h0⟩,?_⟩
 rintro i m zs H2 ⟨rfl,hi,p⟩
 obtain ⟨q1,q2⟩:=hq i zs H2 hi p
 refine ⟨by rw[hl i zs H2 p];lia,?_⟩
 by_cases hlt:i<xs.length
 ·refine .inr ⟨⟨xs,ys,xs[i],ys[i]'(by lia),q1,q2,by simp[hlt],by rw[d9 (by lia)]⟩,fun y H'=>Pv (i+1) (zs++[y]) H',fun _=>False,fun y H' q=>⟨xs.length - (i+1),by lia,rfl,hlt,q⟩,fun _ q=>q.elim,fun v H3 yld=>?_⟩
  obtain ⟨r,x,y,hr,rfl,rfl,hx,hy⟩:=yld
  exact ⟨r,[x,y],rfl,.of f6,rfl,x,[y],rfl,y,[],rfl,rfl,wk2 hσ _ _,hs i zs _ x y r (hx xs q1) (hy ys q2) hr p⟩
 ·have e:i=xs.length:=by lia
  subst e
  exact .inl ⟨⟨xs,q1,i9 _⟩,hd zs H2 p⟩
end
section
variable {prog:j9}{w:t9}{A:v7}{E:d6->d7->Prop}{s:d7}
theorem Bg (xs:List d6):((D4 xs.length).filterMap fun (m:Nat)=>xs.toArray[(((xs.length:Int) - 1)+(m:Int)*(-1)).toNat]?).toArray=xs.reverse.toArray:=by
 congr 1
 apply fi
 intro i
 have e:∀m∈D4 xs.length,(fun (m:Nat)=>xs.toArray[(((xs.length:Int) - 1)+(m:Int)*(-1)).toNat]?) m=some (xs.reverse.getD m .none):=fun m hm=>by
  have hm':=List.mem_range.mp hm
  have h1:(((xs.length:Int) - 1)+(m:Int)*(-1)).toNat=xs.length - 1 - m:=by lia
  show xs.toArray[(((xs.length:Int) - 1)+(m:Int)*(-1)).toNat]?=_
  rw[h1,List.getElem?_toArray,j6,yU hm',d9 (by lia)]
  rfl
 have e2:(D4 xs.length).filterMap (fun (m:Nat)=>xs.toArray[(((xs.length:Int) - 1)+(m:Int)*(-1)).toNat]?)=(D4 xs.length).map fun m=>xs.reverse.getD m .none:=by
  have:∀(l:List Nat) (f:Nat->Option d6) (g:Nat->d6),(∀m∈l,f m=some (g m))->l.filterMap f=l.map g:=by
   intro l f g
   induction l with
   | nil=>intro _;rfl
   | cons a l ih =>
    intro h
    rw[List.filterMap_cons_some (h a i4),ih fun m hm=>h m (f7 _ hm)];rfl
  exact this _ _ _ e
 rw[e2,n8]
 by_cases hi:i<xs.length
 ·rw[M6 hi,Q6,j6,d9 (by rw[J6];exact hi)];rfl
 ·rw[M8 (by rw[Q7];lia),M8 (by rw[J6];lia)];rfl
end
section
variable {X:Cx}
end
theorem Ic {CX:yI}{P:j9}{w:t9}{K:m9}{mg:Str->Option d6}{base:Heap}{f:Addr}{name qual:Str}{params:cq}{body:List Stmt}{scope:N3}{dV kV doc pm cdv ct oc:d6}{an od:Option Addr}
  {osl:Array (Option d6)}{N ps:List Str}{sp:Sp} (lk:K.lookup f=some ⟨oc,od,.func (fg name qual params body scope dV kV doc pm an cdv ct),osl⟩) (hcd:iU K cdv qual=true) (S:C3 N ps scope)
  (len:∀vs H Q E,sp vs H Q E->vs.length=ps.length)
  (hbody:∀(A:v7) (outer:List Env) (s:d7) (H:Hp) (vs:List V) (Q:VK) (E:XK),sp vs H Q E ->
   ∃t,pM (eX CX P w K mg base N qual scope f cdv A outer s H E) body t/\t { nx:=fun _ H'=>Q .non H',rt:=Q } (start N vs) H):
  M0 P w K mg base CX 0 f (fg name qual params body scope dV kV doc pm an cdv ct) ps sp:=by
 refine ⟨len,fun A outer s H args us vs Q E hr e0 hb r hsp=>?_⟩
 have hl:=len _ _ _ _ hsp
 have KX:K.In s.heap:=e0.mod.kin.keeps fun b o e=>(e0.bs b o e).1
 have lim:s.heap.NoLimit:=e0.mod.nolimit.keeps fun b o e=>(e0.bs b o e).1
 have hkind:∀y∈ps.zip us,scope.names.lookup y.1=some .local ∨ (scope.names.lookup y.1=some .cell/\((O0 (s.heap.objs.size+1) scope.names []).lookup y.1).isSome=true):=fun ⟨n,v⟩ hy=>by
  rcases S.par n (iX hy).1 with q|q
  ·exact .inl q
  ·exact .inr ⟨q,qY _ _ _ (.inl q)⟩
 refine Fg hr.depth (KX _ _ lk) rfl S.co S.gen rfl (W.codeRec_of KX hcd) (hb _ _ _ _ ?_)
 refine yK S.kind hkind fun env he s1 x=>?_
 subst he
 refine ⟨lim.keeps x.toInCall.keep,codeAny_func ?_⟩
 obtain ⟨t,ht,hq⟩:=hbody A outer s H vs Q E hsp
 have I:C6 (eX CX P w K mg base N qual scope f cdv A outer s H E) [] (start N vs) H s1:=qy S hr.hd e0 hl r x
 refine F0 (ht [] s1 (start N vs) H _ I hq) (fun fl s' hs=>?_) fun e s' hs=>hs
 have fin:∀{σ':St}{H':Hp}{v:V}{u:d6},C6 (eX CX P w K mg base N qual scope f cdv A outer s H E) [] σ' H' s'->G8 v u->Q v H'->CE outer P w H s Q u s' :=
  fun {σ' H' v u} J rv q=>⟨v,H',J.os,J.bare,J.base,J.hok,rv,q⟩
 cases fl with
 | ret u =>
  obtain ⟨v,σ',H',J,rv,q⟩:=hs
  exact fin J rv q
 | next =>
  obtain ⟨σ',H',J,q⟩:=hs
  exact fin (v:=V.non) (u:=D9) J rfl q
 | brk =>
  obtain ⟨_,_,_,q⟩:=hs
  exact E2 q
 | cont =>
  obtain ⟨_,_,_,q⟩:=hs
  exact E2 q
theorem aY.ok0 {P:j9}{w:t9}{K:m9}{mg:Str->Option d6}{base:Heap}{x qual:Str}{st:Stmt}{f:Addr}{fd:C4}{N ps:List Str}{sp:Sp} (F:aY K x qual st f fd) (S:C3 N ps (v9 st)) (len:∀vs H Q E,sp vs H Q E->vs.length=ps.length)
  (hbody:∀(cdv:d6) (A:v7) (outer:List Env) (s:d7) (H:Hp) (vs:List V) (Q:VK) (E:XK),sp vs H Q E ->
   ∃t,pM (eX cH P w K mg base N qual (v9 st) f cdv A outer s H E).nox (Z3 st) t/\t { nx:=fun _ H'=>Q .non H',rt:=Q } (start N vs) H):M0 P w K mg base cH 0 f fd ps sp:=by
 obtain ⟨oc,od,kV,doc,pm,an,cdv,ct,osl,rfl,lk,hcd⟩:=F.ex
 refine Ic lk hcd S len fun A outer s H vs Q E hsp=>?_
 obtain ⟨t,h,q⟩:=hbody cdv A outer s H vs Q E hsp
 exact ⟨t,h.nox,q⟩
section
variable {X:Cx}
end
end L2
namespace G
open PySem PySem.Spec PyProof.Rows L2 Mt
noncomputable def eI (i:Nat):Stmt:=PySem.Challenge.pw_growurns_k42_draws_in_whatever_order.main.body.getD i (.Pass ⟨0,0,0,0⟩)
structure Bt (mg:Str->Option d6):Prop where
 isinstance:mg "isinstance"=none
 bool:mg "bool"=none
 int:mg "int"=none
 tuple:mg "tuple"=none
 list:mg "list"=none
 all:mg "all"=none
 sum:mg "sum"=none
 len:mg "len"=none
 range:mg "range"=none
 max:mg "max"=none
 min:mg "min"=none
 abs:mg "abs"=none
 zip:mg "zip"=none
noncomputable def N5 (lo hi:Int):A2->Bool
 | .int i=>decide (lo<=i)&&decide (i<=hi)
 | _=>false
section
variable {P:j9}{w:t9}{K:m9}{mg:Str->Option d6}{base:Heap}{f:Addr}{fd:C4}
noncomputable def numD:A2->Bool
 | .int _=>true
 | _=>false
noncomputable def ft:Sp:=fun vs H Q _=>∃(v:V) (st:Addr) (d:A2),vs=[v]/\Dt st H d v/\Q (.bl (numD d)) H
noncomputable abbrev hV:Stmt:=eI 13
theorem rE:C3 ["thing"] ["thing"] (v9 hV):=⟨rfl,rfl,rfl,by decide +kernel,rfl,by decide +kernel,by decide +kernel⟩
theorem so (F:aY K "is_number" "is_number" hV f fd) (B:Bt mg):M0 P w K mg base cH 0 f fd ["thing"] ft:=by
 refine F.ok0 rE (fun vs H Q E h=>?_) (fun cdv A outer s H vs Q E h=>?_)
 ·obtain ⟨v,st,d,rfl,_⟩:=h
  rfl
 obtain ⟨v,st,d,rfl,hd,q⟩:=h
 refine ⟨_,v5 (C7 (cC (t7 (Q4 ye) rfl B.isinstance A1 (b7 (pv 0) (b7 (S8 rfl B.int jl) d8)))
  (cB (wz (t7 (Q4 kg) rfl B.isinstance A1 (b7 (pv 0) (b7 (S8 rfl B.bool Df) d8))))))),?_⟩
 refine ⟨_,rfl,v,st,d,rfl,hd,_,rfl,?_⟩
 cases d with
 | bool b=>exact ⟨_,rfl,v,st,_,rfl,hd,_,rfl,q⟩
 | int i=>exact ⟨_,rfl,v,st,_,rfl,hd,_,rfl,q⟩
 | none=>exact q
 | str x=>exact q
 | list ds=>exact q
 | tuple ds=>exact q
 | dict kvs=>exact q
noncomputable def dS:Sp:=fun vs H Q _=>∃(v:V) (st:Addr) (d:A2) (lo hi:Int),vs=[v,.int lo,.int hi]/\Dt st H d v/\Q (.bl (N5 lo hi d)) H
noncomputable abbrev ju:Stmt:=eI 14
theorem tU:C3 ["thing","low","high"] ["thing","low","high"] (v9 ju):=⟨rfl,rfl,rfl,by decide +kernel,rfl,by decide +kernel,by decide +kernel⟩
theorem uj (F:aY K "is_whole" "is_whole" ju f fd) (c1:S2 P w K mg base 0 "is_number" ["thing"] ft):M0 P w K mg base cH 1 f fd ["thing","low","high"] dS:=by
 refine F.ok tU (fun vs H Q E h=>?_) (fun cdv A outer s H vs Q E hr h=>?_)
 ·obtain ⟨v,st,d,lo,hi,rfl,_⟩:=h
  rfl
 obtain ⟨v,st,d,lo,hi,rfl,hd,q⟩:=h
 refine ⟨_,v5 (C7 (cC (B8 c1 hr rfl (b7 (pv 0) d8)) (cB (ig ij ij (pv 1) (pv 0) (pv 2))))),?_⟩
 refine ⟨_,rfl,v,st,d,rfl,hd,_,rfl,?_⟩
 cases d with
 | int i =>
  refine P8 ?_
  unfold Dt at hd
  subst hd
  refine ⟨_,rfl,_,rfl,lo,i,rfl,rfl,_,rfl,?_⟩
  have q':Q (.bl (decide (lo<=i)&&decide (i<=hi))) H:=q
  by_cases h1:lo<=i
  ·rw[decide_eq_true h1,K6] at q'
   rw[decide_eq_true h1]
   exact P8 ⟨_,rfl,i,hi,rfl,rfl,q'⟩
  ·rw[decide_eq_false h1,F8] at q'
   rw[decide_eq_false h1]
   exact Q3 q'
 | bool b=>exact q
 | none=>exact q
 | str x=>exact q
 | list ds=>exact q
 | tuple ds=>exact q
 | dict kvs=>exact q
noncomputable def K9 (lo hi:Int):A2->Bool
 | .tuple ds=>ds.all (N5 lo hi)
 | _=>false
noncomputable def ag:Sp:=fun vs H Q _=>∃(v:V) (st:Addr) (d:A2) (lo hi:Int),vs=[v,.int lo,.int hi]/\Dt st H d v/\(∀ds,d=.tuple ds->ds.length<=1000)/\∀H',j7 H H'->Q (.bl (K9 lo hi d)) H'
noncomputable abbrev fA:Stmt:=eI 15
theorem pD:C3 ["thing","low","high"] ["thing","low","high"] (v9 fA):=⟨rfl,rfl,rfl,by decide +kernel,rfl,by decide +kernel,by decide +kernel⟩
theorem pF (F:aY K "are_wholes" "are_wholes" fA f fd) (B:Bt mg) (c1:S2 P w K mg base 1 "is_whole" ["thing","low","high"] dS):M0 P w K mg base cH 2 f fd ["thing","low","high"] ag:=by
 refine F.ok pD (fun vs H Q E h=>?_) (fun cdv A outer s H vs Q E hr h=>?_)
 ·obtain ⟨v,st,d,lo,hi,rfl,_⟩:=h
  rfl
 obtain ⟨v,st,d,lo,hi,rfl,hd,hl,q⟩:=h
 refine ⟨_,v5 (C7 (cC (t7 (Q4 dW) rfl B.isinstance A1 (b7 (pv 0) (b7 (S8 rfl B.tuple E7) d8)))
  (cB (t7 (Z4 rfl) rfl B.all qX (b7 (J9 (N:=["part","low","high"]) (ix:=[none,some 1,some 2]) (ifs:=[]) (tc:=Q2) rfl (jx (pv 0))
   (fun s H ex=>aE (i:=0) (by decide +kernel) rfl (B5 rfl) (.inr rfl)) (fun s H ex=>F9) (fun s H ex=>B8 c1 hr rfl (b7 (pv 0) (b7 (pv 1) (b7 (pv 2) d8)))) rfl (by decide +kernel) (by rfl) (by rfl) (fun _=>rfl)) d8))))),?_⟩
 refine ⟨_,rfl,v,st,d,rfl,hd,_,rfl,?_⟩
 cases d with
 | tuple ds =>
  refine P8 ?_
  obtain ⟨a,xs,rfl,ne,ha,hds⟩:∃a xs,v=.ref a/\a≠st/\H a=some (.tup xs)/\P3 st H ds xs:=by unfold Dt at hd;exact hd
  have hlen:=hds.len
  have hl':=hl ds rfl
  refine ⟨_,rfl,a,rfl,⟨xs,.of ha⟩,kE (K:=K) (a:=a) (xs:=xs) (sz (by lia)) (fun i ys H2=>j7 H H2/\i<=ds.length/\ys=(ds.take i).map fun d=>V.bl (N5 lo hi d)) ⟨j7.refl H,u9 _,rfl⟩ (fun i ys H2 h=>?_) (fun i ys H2 _ h=>.of (h.1 _ _ ha)) rfl (fun i ys H2 x hx h=>?_) (fun ys H2 h=>?_)⟩
  ·obtain ⟨_,hi,rfl⟩:=h
   rw[b9,A4];lia
  ·obtain ⟨hS,hil,rfl⟩:=h
   obtain ⟨d,hd',dt⟩:=hds.get hx
   refine ⟨_,rfl,_,rfl,_,rfl,x,st,d,lo,hi,rfl,dt.kp (hS.kp st),hS,(List.getElem?_eq_some_iff.mp hd').1,?_⟩
   rw[C2,hd',n9];rfl
  ·obtain ⟨hS,hil,rfl⟩:=h
   intro p hp
   refine ⟨p,_,rfl,.inl (.of f6),?_,?_⟩
   ·rw[G5];exact List.all_eq_true.mpr fun _ _=>rfl
   ·have e:(((ds.take xs.length).map fun d=>V.bl (N5 lo hi d)).all jN)=K9 lo hi (.tuple ds):=by
     rw[<- hlen,D8,G5];rfl
    rw[e]
    exact q _ (hS.trans (j7.new hp))
 | _=>exact q H (j7.refl H)
end
structure Ct (mg:Str->Option d6):Prop where
 kinds:∃t,mg "MOST_KINDS"=some (.int 4 t)
 balls:∃t,mg "MOST_BALLS"=some (.int 20 t)
 puts:∃t,mg "MOST_PUT_IN"=some (.int 5 t)
variable {H:Hp}{v:V}
theorem _root_.L2.Dt.untup {st:Addr}{ds:List A2}(h:Dt st H (.tuple ds) v):∃a xs,v=.ref a/\a≠st/\H a=some (.tup xs)/\P3 st H ds xs:=by unfold Dt at h;exact h
theorem _root_.L2.Dt.unint {st:Addr}{i:Int}(h:Dt st H (.int i) v):v=.int i:=by unfold Dt at h;exact h
variable {d:A2}
theorem mX {lo hi:Int}(h:N5 lo hi d=true):∃i,d=.int i/\lo<=i/\i<=hi:=by
 cases d with
 | int i =>
  have h':(decide (lo<=i)&&decide (i<=hi))=true:=h
  rw[A6] at h'
  exact ⟨i,rfl,of_decide_eq_true h'.1,of_decide_eq_true h'.2⟩
 | _=>cases (show false=true from h)
theorem oD {lo hi:Int}:∀{ds:List A2},ds.all (N5 lo hi)=true->∃ns:List Int,ds=ns.map .int/\∀x∈ns,lo<=x/\x<=hi
 | [],_=>⟨[],rfl,by simp⟩
 | d::ds,h=>by
  rw[vz,A6] at h
  obtain ⟨i,e,h1,h2⟩:=mX h.1
  obtain ⟨ns,e2,h3⟩:=oD h.2
  subst e e2
  exact ⟨i::ns,rfl,fun x hx=>by
   rcases List.mem_cons.mp hx with z|z
   ·subst z;exact ⟨h1,h2⟩
   ·exact h3 x z⟩
theorem aK {lo hi:Int}(h:K9 lo hi d=true):∃ns:List Int,d=DI ns/\∀x∈ns,lo<=x/\x<=hi:=by
 cases d with
 | tuple ds =>
  obtain ⟨ns,e,h2⟩:=oD (ds:=ds) h
  subst e
  exact ⟨ns,rfl,h2⟩
 | _=>cases (show false=true from h)
noncomputable def HW:A2->Int
 | .int i=>i
 | _=>0
noncomputable def bZ:A2->Nat
 | .tuple ds=>ds.length
 | _=>0
noncomputable def Jn:A2->Int
 | .tuple ds=>(ds.map HW).sum
 | _=>0
theorem mG (ns:List Int):Jn (DI ns)=ns.sum:=by
 show ((ns.map G4).map HW).sum=ns.sum
 rw[X2]
 have e:(HW ∘ G4)=id:=by funext i;rfl
 rw[e,Le]
theorem V9 (ns:List Int):bZ (DI ns)=ns.length:=by show (ns.map G4).length=_;rw[b9]
noncomputable def dY (m:Int) (d:A2):Bool:=K9 0 m d&&((decide ((1:Int)<=bZ d)&&decide ((bZ d:Int)<=4))&&decide ((0:Int)<Jn d))
noncomputable def dU (k:Int) (d:A2):Bool:=match d with
 | .tuple ds=>decide ((ds.length:Int)=k)&&ds.all (fun r=>K9 0 5 r&&decide ((bZ r:Int)=k))
 | _=>false
noncomputable def aN (d:A2):Prop:=∀ds,d=.tuple ds->ds.length<=1000
section
variable {P:j9}{w:t9}{K:m9}{mg:Str->Option d6}{base:Heap}{f:Addr}{fd:C4}
noncomputable def cA:Sp:=fun vs H Q _=>∃(v:V) (st:Addr) (d:A2) (m:Int),vs=[v,.int m]/\Dt st H d v/\aN d/\∀H',j7 H H'->Q (.bl (dY m d)) H'
noncomputable abbrev dg:Stmt:=eI 27
theorem mj:C3 ["thing","most"] ["thing","most"] (v9 dg):=⟨rfl,rfl,rfl,by decide +kernel,rfl,by decide +kernel,by decide +kernel⟩
theorem mn (F:aY K "is_urn_up_to" "is_urn_up_to" dg f fd) (B:Bt mg) (C:Ct mg) (c1:S2 P w K mg base 2 "are_wholes" ["thing","low","high"] ag):M0 P w K mg base cH 3 f fd ["thing","most"] cA:=by
 refine F.ok mj (fun vs H Q E h=>?_) (fun cdv A outer s H vs Q E hr h=>?_)
 ·obtain ⟨v,st,d,m,rfl,_⟩:=h
  rfl
 obtain ⟨v,st,d,m,rfl,hd,hl,q⟩:=h
 obtain ⟨tk,hk⟩:=C.kinds
 refine ⟨_,n5 (R0 (Y3 (V5 (B8 c1 hr rfl (b7 (pv 0) (b7 j8 (b7 (pv 1) d8)))))) (v5 (C7 Y4)) F6)
  (v5 (C7 (cC (ig ij ij j8 (t7 B7 rfl B.len A5 (b7 (pv 0) d8)) (V6 (v:=.int 4) rfl hk ⟨tk,rfl⟩))
   (cB (cN xS (t7 (aP rfl) rfl B.sum qW (b7 (pv 0) d8)) j8 (M5 _)))))),?_⟩
 refine ⟨_,rfl,_,rfl,v,st,d,0,m,rfl,hd,hl,fun H1 g1=>⟨_,rfl,?_⟩⟩
 have q1:=q H1 g1
 unfold dY at q1
 cases hw:K9 0 m d with
 | false =>
  rw[hw,F8] at q1
  exact P8 q1
 | true =>
  rw[hw,K6] at q1
  refine Q3 ?_
  obtain ⟨ns,e,hns⟩:=aK hw
  subst e
  obtain ⟨a,e,ne,ha⟩:=hd.di
  subst e
  rw[V9,mG] at q1
  have ha1:=g1 _ _ ha
  refine ⟨_,rfl,a,_,rfl,.inr (.of ha1),_,_,rfl,rfl,_,rfl,?_⟩
  rw[b9]
  by_cases h1:(1:Int)<=(ns.length:Int)
  ·rw[decide_eq_true h1,K6] at q1
   rw[decide_eq_true h1]
   refine P8 ⟨_,_,rfl,rfl,_,rfl,?_⟩
   by_cases h2:(ns.length:Int)<=4
   ·rw[decide_eq_true h2,K6] at q1
    rw[decide_eq_true h2]
    exact P8 ⟨_,rfl,a,ns,rfl,.inr (.of ha1),_,_,rfl,rfl,q1⟩
   ·rw[decide_eq_false h2,F8] at q1
    rw[decide_eq_false h2]
    exact Q3 q1
  ·rw[decide_eq_false h1,F8,F8] at q1
   rw[decide_eq_false h1]
   exact Q3 ⟨_,rfl,Q3 q1⟩
noncomputable def cU:Sp:=fun vs H Q _=>∃(v:V) (st:Addr) (d:A2),vs=[v]/\Dt st H d v/\aN d/\∀H',j7 H H'->Q (.bl (dY 20 d)) H'
noncomputable abbrev nK:Stmt:=eI 26
theorem zg:C3 ["thing"] ["thing"] (v9 nK):=⟨rfl,rfl,rfl,by decide +kernel,rfl,by decide +kernel,by decide +kernel⟩
theorem zk (F:aY K "is_urn" "is_urn" nK f fd) (C:Ct mg) (c1:S2 P w K mg base 3 "is_urn_up_to" ["thing","most"] cA):M0 P w K mg base cH 4 f fd ["thing"] cU:=by
 refine F.ok zg (fun vs H Q E h=>?_) (fun cdv A outer s H vs Q E hr h=>?_)
 ·obtain ⟨v,st,d,rfl,_⟩:=h
  rfl
 obtain ⟨v,st,d,rfl,hd,hl,q⟩:=h
 obtain ⟨tk,hk⟩:=C.balls
 refine ⟨_,v5 (C7 (B8 c1 hr rfl (b7 (pv 0) (b7 (V6 (v:=.int 20) rfl hk ⟨tk,rfl⟩) d8)))),?_⟩
 exact ⟨_,rfl,v,st,d,20,rfl,hd,hl,q⟩
noncomputable def df (c:Nat->Addr):Sp:=fun vs H Q E=>∃(v:V) (st:Addr) (d:A2) (lo hi:Int),vs=[v,.int lo,.int hi]/\Dt st H d v/\Sm lo/\Sm hi/\(N5 lo hi d=true->Q .non H)/\(N5 lo hi d=false->E (.ref (c 5)) none H)
noncomputable abbrev ef:Stmt:=eI 16
theorem nG:C3 ["thing","low","high"] ["thing","low","high"] (v9 ef):=⟨rfl,rfl,rfl,by decide +kernel,rfl,by decide +kernel,by decide +kernel⟩
theorem nV {c:Nat->Addr}{B:Addr} (F:aY K "need_number" "need_number" ef f fd) (R:xk K mg c B) (c1:S2 P w K mg base 1 "is_whole" ["thing","low","high"] dS):M0 P w K mg base (jG P w) 2 f fd ["thing","low","high"] (df c):=by
 refine F.okX nG (fun vs H Q E h=>?_) (fun cdv A outer s H vs Q E hr h=>?_)
 ·obtain ⟨v,st,d,lo,hi,rfl,_⟩:=h
  rfl
 obtain ⟨v,st,d,lo,hi,rfl,hd,slo,shi,q1,q2⟩:=h
 refine ⟨_,v5 (R0 (Y3 (V5 (B8 c1 hr rfl (b7 (pv 0) (b7 (pv 1) (b7 (pv 2) d8)))))) (v5 (iI R.e5 (R.xc 5 (by decide)) (xO (rS (wu (pv 1) (rS (wu (pv 2) Bp))))) (fun σ H Q Q' m q=>?_))) F6),?_⟩
 ·obtain ⟨v1,z1,i1,z2,z3,z4,v2,z5,i2,z6,z7,z8,z9⟩:=q
  exact ⟨v1,z1,i1,z2,z3,z4,v2,z5,i2,z6,z7,z8,fun z=>m _ _ (z9 z)⟩
 refine ⟨_,rfl,_,rfl,_,rfl,v,st,d,lo,hi,rfl,hd,_,rfl,?_⟩
 cases hw:N5 lo hi d with
 | true=>exact Q3 (q1 hw)
 | false=>exact P8 ⟨_,rfl,lo,rfl,slo.1,slo.2,_,rfl,hi,rfl,shi.1,shi.2,fun z=>q2 hw⟩
noncomputable def jq (c:Nat->Addr):Sp:=fun vs H Q E=>∃(u v:V) (st:Addr) (dk d:A2),vs=[u,v]/\Dt st H dk u/\(N5 1 4 dk=false->E (.ref (c 5)) none H) /\
 (∀k,dk=.int k->1<=k->k<=4->Dt st H d v/\aN d/\(∀ds,d=.tuple ds->∀r∈ds,aN r)/\∀H',j7 H H'->Q (.bl (dU k d)) H')
noncomputable abbrev kX:Stmt:=eI 28
theorem wc:C3 ["kinds","thing"] ["kinds","thing"] (v9 kX):=⟨rfl,rfl,rfl,by decide +kernel,rfl,by decide +kernel,by decide +kernel⟩
theorem sm1:Sm 1:=by unfold Sm;decide +kernel
theorem sm4:Sm 4:=by unfold Sm;decide +kernel
theorem wF {c:Nat->Addr} (F:aY K "is_rule" "is_rule" kX f fd) (B:Bt mg) (C:Ct mg) (c1:S2 P w K mg base 2 "are_wholes" ["thing","low","high"] ag) (c2:eZ P w K mg base 2 "need_number" ["thing","low","high"] (df c)):M0 P w K mg base (jG P w) 3 f fd ["kinds","thing"] (jq c):=by
 refine F.okX wc (fun vs H Q E h=>?_) (fun cdv A outer s H vs Q E hr h=>?_)
 ·obtain ⟨u,v,st,dk,d,rfl,_⟩:=h
  rfl
 obtain ⟨u,v,st,dk,d,rfl,hu,qE,qQ⟩:=h
 obtain ⟨tk,hk⟩:=C.kinds
 obtain ⟨tp,hp⟩:=C.puts
 refine ⟨_,n5 (iJ (aj c2 hr rfl iK (b7 (pv 0) (b7 j8 (b7 (V6 (v:=.int 4) rfl hk ⟨tk,rfl⟩) d8)))))
  (pM.nox (n5 (R0 (PW.pt (jU (Y3 (V5 (t7 (Q4 dW) rfl B.isinstance A1 (b7 (pv 1) (b7 (S8 rfl B.tuple E7) d8)))))
   (fF (N6 jg (t7 B7 rfl B.len A5 (b7 (pv 1) d8)) (pv 0) (M5 _))))) (v5 (C7 Y4)) F6)
  (v5 (C7 (t7 (Z4 rfl) rfl B.all qX (b7 (J9 (N:=["row","kinds"]) (ix:=[none,some 0]) (ifs:=[]) (tc:=Q2) rfl (jx (pv 1))
   (fun s H ex=>aE (i:=0) (by decide +kernel) rfl (B5 rfl) (.inr rfl)) (fun s H ex=>F9)
   (fun s H ex=>cC (B8 c1 hr rfl (b7 (pv 0) (b7 j8 (b7 (V6 (v:=.int 5) rfl hp ⟨tp,rfl⟩) d8)))) (cB (cN ik (t7 (lenK (K:=K) rfl) rfl B.len A5 (b7 (pv 0) d8)) (pv 1) (M5 _)))) rfl (by decide +kernel) (by rfl) (by rfl) (fun _=>rfl)) d8)))))),?_⟩
 refine ⟨_,rfl,u,st,dk,1,4,rfl,hu,sm1,sm4,fun hw=>?_,qE⟩
 obtain ⟨k,e,k1,k4⟩:=mX hw
 subst e
 obtain rfl:=hu.unint
 obtain ⟨hd,hl,hl2,q⟩:=qQ k rfl k1 k4
 refine ⟨_,rfl,v,st,d,rfl,hd,_,rfl,?_⟩
 cases d with
 | tuple ds =>
  obtain ⟨a,xs,e,ne,ha,hds⟩:=hd.untup
  subst e
  have hlen:=hds.len
  have hl':=hl ds rfl
  refine Q3 ⟨_,rfl,a,xs,rfl,.inr (.of ha),_,rfl,rfl,_,rfl,?_⟩
  have q0:=fun H' g=>q H' g
  unfold dU at q0
  by_cases hk':(ds.length:Int)=k
  ·have e1:V.int (xs.length:Int)=V.int k:=by rw[<- hlen,hk']
   rw[decide_eq_true e1]
   refine Q3 ?_
   have q1:∀H',j7 H H'->Q (.bl (ds.all (fun r=>K9 0 5 r&&decide ((bZ r:Int)=k)))) H':=fun H' g=>by
    have:=q0 H' g
    simp only[decide_eq_true hk',K6] at this
    exact this
   refine ⟨_,rfl,a,rfl,⟨xs,.of ha⟩,kE (K:=K) (a:=a) (xs:=xs) (sz (by lia)) (fun i ys H2=>j7 H H2/\i<=ds.length/\ys=(ds.take i).map fun r=>V.bl (K9 0 5 r&&decide ((bZ r:Int)=k))) ⟨j7.refl H,u9 _,rfl⟩ (fun i ys H2 h=>?_) (fun i ys H2 _ h=>.of (h.1 _ _ ha)) rfl (fun i ys H2 x hx h=>?_) (fun ys H2 h=>?_)⟩
   ·obtain ⟨_,hil,rfl⟩:=h
    rw[b9,A4];lia
   ·obtain ⟨hS,hil,rfl⟩:=h
    obtain ⟨d,hd',dt⟩:=hds.get hx
    have dt2:=dt.kp (hS.kp st)
    refine ⟨_,rfl,x,st,d,0,5,rfl,dt2,hl2 ds rfl d (B0 hd'),fun H3 g3=>⟨_,rfl,?_⟩⟩
    have fin:∀b:Bool,b=(K9 0 5 d&&decide ((bZ d:Int)=k))->j7 H H3/\i+1<=ds.length/\((ds.take i).map fun r=>V.bl (K9 0 5 r&&decide ((bZ r:Int)=k)))++[V.bl b]=(ds.take (i+1)).map fun r=>V.bl (K9 0 5 r&&decide ((bZ r:Int)=k)):=fun b e=>by
     subst e
     refine ⟨hS.trans g3,(List.getElem?_eq_some_iff.mp hd').1,?_⟩
     rw[C2,hd',n9];rfl
    cases hw:K9 0 5 d with
    | false=>exact Q3 (fin false (by rw[hw];rfl))
    | true =>
     obtain ⟨ns,e,_⟩:=aK hw
     subst e
     obtain ⟨b,e,_,hb⟩:=dt2.di
     subst e
     refine P8 ⟨_,rfl,b,_,rfl,.inr (.of (g3 _ _ hb)),_,rfl,rfl,?_⟩
     refine fin _ ?_
     rw[hw,K6,V9,b9]
     rw[decide_eq_decide]
     constructor
     ·intro e;injection e
     ·intro e;rw[e]
   ·obtain ⟨hS,hil,rfl⟩:=h
    intro p hp
    refine ⟨p,_,rfl,.inl (.of f6),?_,?_⟩
    ·rw[G5];exact List.all_eq_true.mpr fun _ _=>rfl
    ·have e:(((ds.take xs.length).map fun r=>V.bl (K9 0 5 r&&decide ((bZ r:Int)=k))).all jN)=ds.all (fun r=>K9 0 5 r&&decide ((bZ r:Int)=k)):=by
      rw[<- hlen,D8,G5];rfl
     rw[e]
     exact q1 _ (hS.trans (j7.new hp))
  ·have e1:¬ V.int (xs.length:Int)=V.int k:=fun e=>hk' (by rw[hlen];injection e)
   rw[decide_eq_false e1]
   refine P8 ?_
   have:=q0 H (j7.refl H)
   simp only[decide_eq_false hk',F8] at this
   exact this
 | _=>exact P8 (P8 (q H (j7.refl H)))
end
theorem EU:V4 "ValueError"=some (.type "ValueError"):=by decide +kernel
noncomputable def yC (i:Nat):List Bool:=[decide (i=0),decide (i=1),decide (i=2),decide (i=3),decide (i=4),decide (i=5),decide (i=6),decide (i=7),decide (i=8),decide (i=9)]
theorem sR (i:Nat):(yC i).length=10:=rfl
theorem Ij (i:Nat):(yC i).length<=i7:=by rw[sR];decide
theorem Ii:∀i:Nat,i<10->((yC i).map (fun b=>if b then (1:Int) else 0)).sum=1:=by decide
theorem FO:∀i:Nat,i<10->(yC i)[i]?=some true/\∀m,m<i->(yC i)[m]?=some false:=by decide
section
variable {P:j9}{w:t9}{K:m9}{mg:Str->Option d6}{base:Heap}{f:Addr}{fd:C4}
noncomputable def kS:List V:=[.str "urn",.str "rule",.str "kind",.str "ball",.str "draws",.str "number",.str "not even",.str "counts",.str "not alike",.str "note"]
noncomputable def BB:Option Nat->V
 | none=>.non
 | some i=>kS.getD i .non
theorem AC:∀i:Nat,i<10->EV kS (i:Int)=some (kS.getD i .non):=by
 intro i hi
 exact C8 (by rw[d9 (show i<kS.length from hi),j6,d9 (show i<kS.length from hi)];rfl)
noncomputable def Out (c:Nat->Addr) (H:Hp) (Q:VK) (E:XK):Option Nat->Prop
 | none=>∀v H1,j7 H H1->Q v H1
 | some i=>∀H1,j7 H H1->E (.ref (c i)) none H1
noncomputable def fm (P:j9) (w:t9) (K:m9) (mg:Str->Option d6) (base:Heap) (k:Nat) (c:Nat->Addr):Sp:=fun vs H Q _=>∃(fa:Addr) (spL:Sp) (fo:Obj) (fd:C4) (o:Option Nat),vs=[.ref fa]/\H fa=some (KN fo)/\fo.data=.func fd /\
 yP fd ⟨[],[]⟩=pure []/\M0 P w K mg base (jG P w) k fa fd [] spL/\(∀i,o=some i->i<10)/\(∀Q' E',Out c H Q' E' o->spL [] H Q' E')/\∀H',j7 H H'->Q (BB o) H'
noncomputable abbrev kU:Stmt:=eI 57
theorem ay:C3 ["_law_call","_law_error","e","_law_sorts","_law_words"] ["_law_call"] (v9 kU):=⟨rfl,rfl,rfl,by decide +kernel,rfl,by decide +kernel,by decide +kernel⟩
theorem wC {c:Nat->Addr}{Bs:Addr}{k:Nat} (FF:aY K "_law_refused" "_law_refused" kU f fd) (B:Bt mg) (R:xk K mg c Bs) (hVE:mg "ValueError"=none):M0 P w K mg base cH (k+1) f fd ["_law_call"] (fm P w K mg base k c):=by
 refine FF.ok ay (fun vs H Q E h=>?_) (fun cdv A outer s H vs Q E hr h=>?_)
 ·obtain ⟨fa,spL,fo,fd,o,rfl,_⟩:=h
  rfl
 obtain ⟨fa,spL,fo,fd',o,rfl,kn,hfd,bnd,FL,ho,hsp,q⟩:=h
 refine ⟨_,n5 (D6 (i:=1) ay.nd rfl (B5 rfl) fI)
  (n5 (Eh (k:=k) (iC:=0) (iE:=2) (iR:=1) rfl rfl hr ay.nd rfl (B5 rfl) rfl rfl rfl rfl (by decide) rfl R.eb R.bb)
  (n5 (R0 (Bm (GU (pv 1))) (v5 (C7 fI)) F6)
  (n5 (D6 (i:=3) ay.nd rfl (B5 rfl) (N1 (b7 (t7 Y5 rfl B.isinstance A1 (b7 (pv 1) (b7 (V6 (v:=.ref (c 0)) rfl R.e0 rfl) d8))) (b7 (t7 Y5 rfl B.isinstance A1 (b7 (pv 1) (b7 (V6 (v:=.ref (c 1)) rfl R.e1 rfl) d8))) (b7 (t7 Y5 rfl B.isinstance A1 (b7 (pv 1) (b7 (V6 (v:=.ref (c 2)) rfl R.e2 rfl) d8))) (b7 (t7 Y5 rfl B.isinstance A1 (b7 (pv 1) (b7 (V6 (v:=.ref (c 3)) rfl R.e3 rfl) d8))) d8))))))
  (n5 (D6 (i:=3) ay.nd rfl (B5 rfl) (A7 lr (pv 3) (N1 (b7 (t7 Y5 rfl B.isinstance A1 (b7 (pv 1) (b7 (V6 (v:=.ref (c 4)) rfl R.e4 rfl) d8))) (b7 (t7 Y5 rfl B.isinstance A1 (b7 (pv 1) (b7 (V6 (v:=.ref (c 5)) rfl R.e5 rfl) d8))) (b7 (t7 Y5 rfl B.isinstance A1 (b7 (pv 1) (b7 (V6 (v:=.ref (c 6)) rfl R.e6 rfl) d8))) d8))))))
  (n5 (D6 (i:=3) ay.nd rfl (B5 rfl) (A7 lr (pv 3) (N1 (b7 (t7 Y5 rfl B.isinstance A1 (b7 (pv 1) (b7 (V6 (v:=.ref (c 7)) rfl R.e7 rfl) d8))) (b7 (t7 Y5 rfl B.isinstance A1 (b7 (pv 1) (b7 (V6 (v:=.ref (c 8)) rfl R.e8 rfl) d8))) (b7 (t7 Y5 rfl B.isinstance A1 (b7 (pv 1) (b7 (V6 (v:=.ref (c 9)) rfl R.e9 rfl) d8))) d8))))))
  (n5 (R0 (PW.pt (jU (Y3 (V5 (t7 Y5 rfl B.isinstance A1 (b7 (pv 1) (b7 (S8 rfl hVE EU) d8)))))
   (fF (N6 jg (t7 (aP rfl) rfl B.sum qW (b7 (J9 (N:=["_law_one"]) (ix:=[none]) (ifs:=[]) (tc:=Q2) rfl (jV (pv 3))
    (fun s H ex=>aE (i:=0) (by decide +kernel) rfl (B5 rfl) (.inr rfl)) (fun s H ex=>F9) (fun s H ex=>E6 cX rfl B.int jl (b7 (pv 0) d8)) rfl (by decide +kernel) (by rfl) (by rfl) (fun _=>rfl)) d8)) j8 (M5 _)))))
   (v5 (C7 ie)) F6)
  (@n5 _ _ _ _ _ (@D6 _ _ 4 _ _ _ _ ay.nd rfl (B5 rfl) (@N1 _ _ _ _ (lj rfl)) rfl (.inl rfl))
  (v5 (C7 (G1 O7 (pv 4) (FD sW PySem.F.slot_list_index PySem.F.type_list_index zq (pv 3) (b7 Y4 d8)) (fun _ _=>rfl))))))))))),?_⟩
 refine ⟨fa,spL,rfl,⟨fo,fd',kn,hfd,bnd,FL⟩,hsp _ _ ?_⟩
 cases o with
 | none=>exact fun v H1 g1=>⟨_,rfl,_,rfl,P8 (q H1 g1)⟩
 | some i =>
  have hi:=ho i rfl
  intro H1 g1
  refine ⟨c i,rfl,R.sub i hi,fun a oe x na=>?_⟩
  have g2:j7 H (t6 H1 a (KN oe)):=g1.trans (j7.new na)
  have ha2:t6 H1 a (KN oe) a=some (KN oe):=f6
  generalize t6 H1 a (KN oe)=H2 at g2 ha2
  refine ⟨_,rfl,_,rfl,Q3 ?_⟩
  refine ⟨_,rfl,a,oe,c i,_,_,_,rfl,ha2,x,R.xi i hi,rfl,R.one i 0 hi (by decide),_,rfl,a,oe,c i,_,_,_,rfl,ha2,x,R.xi i hi,rfl,R.one i 1 hi (by decide),_,rfl,a,oe,c i,_,_,_,rfl,ha2,x,R.xi i hi,rfl,R.one i 2 hi (by decide),_,rfl,a,oe,c i,_,_,_,rfl,ha2,x,R.xi i hi,rfl,R.one i 3 hi (by decide),(by show 4<=i7;decide),fun p hp=>?_⟩
  have g3:j7 H2 (t6 H2 p (.lst [.bl (decide (i=0)),.bl (decide (i=1)),.bl (decide (i=2)),.bl (decide (i=3))])):=j7.new hp
  have hp3:t6 H2 p (.lst [.bl (decide (i=0)),.bl (decide (i=1)),.bl (decide (i=2)),.bl (decide (i=3))]) p=some (.lst [.bl (decide (i=0)),.bl (decide (i=1)),.bl (decide (i=2)),.bl (decide (i=3))]):=f6
  have ha3:=g3 _ _ ha2
  show fk _ _ _ _ (t6 H2 p (.lst [.bl (decide (i=0)),.bl (decide (i=1)),.bl (decide (i=2)),.bl (decide (i=3))]))
  generalize t6 H2 p (.lst [.bl (decide (i=0)),.bl (decide (i=1)),.bl (decide (i=2)),.bl (decide (i=3))])=H3 at g3 hp3 ha3
  refine ⟨_,rfl,_,rfl,a,oe,c i,_,_,_,rfl,ha3,x,R.xi i hi,rfl,R.one i 4 hi (by decide),_,rfl,a,oe,c i,_,_,_,rfl,ha3,x,R.xi i hi,rfl,R.one i 5 hi (by decide),_,rfl,a,oe,c i,_,_,_,rfl,ha3,x,R.xi i hi,rfl,R.one i 6 hi (by decide),(by show 3<=i7;decide),fun p2 hp2=>⟨p,p2,_,_,rfl,rfl,(by rw[B6 (v8 hp3 hp2)];exact hp3),f6,(by show 4+3<=i7;decide),fun p4 hp4=>?_⟩⟩
  obtain ⟨H5,g5,hp5,e5⟩:∃H5,j7 H3 H5/\H5 p4=some (.lst [.bl (decide (i=0)),.bl (decide (i=1)),.bl (decide (i=2)),.bl (decide (i=3)),.bl (decide (i=4)),.bl (decide (i=5)),.bl (decide (i=6))])/\H5=t6 (t6 H3 p2 (.lst [.bl (decide (i=4)),.bl (decide (i=5)),.bl (decide (i=6))])) p4 (.lst [.bl (decide (i=0)),.bl (decide (i=1)),.bl (decide (i=2)),.bl (decide (i=3)),.bl (decide (i=4)),.bl (decide (i=5)),.bl (decide (i=6))]):=⟨_,(j7.new hp2).trans (j7.new hp4),f6,rfl⟩
  show fk _ _ _ _ (t6 (t6 H3 p2 (.lst [.bl (decide (i=4)),.bl (decide (i=5)),.bl (decide (i=6))])) p4 (.lst [.bl (decide (i=0)),.bl (decide (i=1)),.bl (decide (i=2)),.bl (decide (i=3)),.bl (decide (i=4)),.bl (decide (i=5)),.bl (decide (i=6))]))
  rw[<- e5]
  clear e5
  have ha5:=g5 _ _ ha3
  refine ⟨_,rfl,_,rfl,a,oe,c i,_,_,_,rfl,ha5,x,R.xi i hi,rfl,R.one i 7 hi (by decide),_,rfl,a,oe,c i,_,_,_,rfl,ha5,x,R.xi i hi,rfl,R.one i 8 hi (by decide),_,rfl,a,oe,c i,_,_,_,rfl,ha5,x,R.xi i hi,rfl,R.one i 9 hi (by decide),(by show 3<=i7;decide),fun p5 hp5'=>⟨p4,p5,_,_,rfl,rfl,(by rw[B6 (v8 hp5 hp5')];exact hp5),f6,(by show 7+3<=i7;decide),fun p6 hp6=>?_⟩⟩
  obtain ⟨H7,g6,hl7,e7⟩:∃H7,j7 H5 H7/\H7 p6=some (.lst ((yC i).map V.bl))/\H7=t6 (t6 H5 p5 (.lst [.bl (decide (i=7)),.bl (decide (i=8)),.bl (decide (i=9))])) p6 (.lst ((yC i).map V.bl)):=⟨_,(j7.new hp5').trans (j7.new hp6),f6,rfl⟩
  show fk _ _ _ _ (t6 (t6 H5 p5 (.lst [.bl (decide (i=7)),.bl (decide (i=8)),.bl (decide (i=9))])) p6 (.lst ((yC i).map V.bl)))
  rw[<- e7]
  clear e7
  have ha7:=g6 _ _ ha5
  have g7:j7 H H7:=((g2.trans g3).trans g5).trans g6
  refine ⟨_,rfl,a,oe,c i,_,_,_,rfl,ha7,x,R.xi i hi,rfl,R.val i hi,_,rfl,Q3 ?_⟩
  refine ⟨_,rfl,p6,rfl,⟨_,.of hl7⟩,vd (K:=K) (a:=p6) (xs:=(yC i).map V.bl) (by rw[b9];exact Ij i) (fun j ys H2=>j7 H7 H2/\j<=10/\ys=((yC i).take j).map fun b=>V.int (if b then 1 else 0)) ⟨j7.refl _,u9 _,rfl⟩ (fun j ys H2 h=>?_) (fun j ys H2 _ h=>.of (h.1 _ _ hl7)) rfl (fun j ys H2 v hv h=>?_) (fun ys H2 h=>?_)⟩
  ·obtain ⟨_,hj,rfl⟩:=h
   rw[b9,A4,sR];lia
  ·obtain ⟨hS,hj,rfl⟩:=h
   rw[n8] at hv
   obtain ⟨b,hb,ev⟩:=Option.map_eq_some_iff.mp hv
   subst ev
   refine ⟨_,rfl,.inr ⟨b,rfl,hS,?_,?_⟩⟩
   ·have:=(List.getElem?_eq_some_iff.mp hb).1
    rw[sR] at this
    exact this
   ·rw[C2,hb,n9];rfl
  ·obtain ⟨hS,hj,rfl⟩:=h
   intro pz hpz
   refine ⟨pz,((yC i).take ((yC i).map V.bl).length).map (fun b=>if b then 1 else 0),rfl,.inl (.of (by rw[f6,X2];rfl)),rfl,_,rfl,?_⟩
   rw[b9,D8,Ii i hi]
   refine Q3 ⟨(by show 10<=i7;decide),fun pw hpw=>?_⟩
   have gz:=(hS.trans (j7.new (o:=.lst (((yC i).map fun b=>V.int (if b then 1 else 0)))) hpz)).trans (j7.new (o:=.lst kS) hpw)
   refine ⟨_,rfl,_,rfl,.inl ⟨rfl,_,.of (gz _ _ hl7)⟩,p6,yC i,i,rfl,rfl,gz _ _ hl7,(FO i hi).1,(FO i hi).2,pw,_,_,_,rfl,rfl,.of f6,AC i hi,q _ (g7.trans gz)⟩
end
variable {ns:List Int}{k:Nat}
theorem bO (h:k<ns.length):EV (ns.map V.int) (k:Int)=some (.int (ns.getD k 0)):=by
 refine C8 ?_
 rw[n8,d9 h,j6,d9 h];rfl
noncomputable def lF (x:Int) (b:Bool):Prop:=b=false->0<=x/\x<2147483647
section
variable {P:j9}{w:t9}{K:m9}{mg:Str->Option d6}{base:Heap}{f:Addr}{fd:C4}
noncomputable def jr (K:m9):Sp:=fun vs H Q _=>∃(a:Addr) (ns:List Int) (k:Nat),vs=[.ref a,.int k]/\dC K H a (ns.map V.int)/\∀x,Q (.int x) H
noncomputable abbrev kY:Stmt:=eI 41
theorem we:C3 ["_law_script","_law_k"] ["_law_script","_law_k"] (v9 kY):=⟨rfl,rfl,rfl,by decide +kernel,rfl,by decide +kernel,by decide +kernel⟩
theorem wG (F:aY K "_law_cell_at" "_law_cell_at" kY f fd) (B:Bt mg):M0 P w K mg base cH 1 f fd ["_law_script","_law_k"] (jr K):=by
 refine F.ok we (fun vs H Q E h=>?_) (fun cdv A outer s H vs Q E hr h=>?_)
 ·obtain ⟨a,ns,k,rfl,_⟩:=h
  rfl
 obtain ⟨a,ns,k,rfl,ha,q⟩:=h
 refine ⟨_,n5 (R0 (N6 BD (pv 1) (t7 B7 rfl B.len A5 (b7 (pv 0) d8)) (M5 _)) (v5 (C7 (G1 O7 (pv 0) (pv 1) (fun _ _=>rfl)))) F6)
  (v5 (C7 j8)),?_⟩
 refine ⟨_,rfl,_,rfl,a,_,rfl,.inl ha,_,_,rfl,rfl,_,rfl,?_⟩
 refine wU (fun c=>?_) (fun c=>q 0)
 have c':(k:Int)<(((ns.map V.int).length:Nat):Int):=of_decide_eq_true c
 rw[b9] at c'
 exact ⟨_,rfl,_,rfl,a,_,_,_,rfl,rfl,ha,bO (by lia),q _⟩
noncomputable def nj (K:m9):Sp:=fun vs H Q _=>∃(a:Addr) (ns:List Int) (k:Nat),vs=[.ref a,.int k]/\dC K H a (ns.map V.int)/\∀l x b,H l=none->lF x b->Q (.ref l) (t6 H l (.lst [.int x,.bl b]))
noncomputable abbrev rJ:Stmt:=eI 42
theorem tS:C3 ["_law_script","_law_k","_law_cell"] ["_law_script","_law_k"] (v9 rJ):=⟨rfl,rfl,rfl,by decide +kernel,rfl,by decide +kernel,by decide +kernel⟩
theorem BG (F:aY K "_law_state" "_law_state" rJ f fd) (c1:S2 P w K mg base 1 "_law_cell_at" ["_law_script","_law_k"] (jr K)):M0 P w K mg base cH 2 f fd ["_law_script","_law_k"] (nj K):=by
 refine F.ok tS (fun vs H Q E h=>?_) (fun cdv A outer s H vs Q E hr h=>?_)
 ·obtain ⟨a,ns,k,rfl,_⟩:=h
  rfl
 obtain ⟨a,ns,k,rfl,ha,q⟩:=h
 refine ⟨_,n5 (D6 (i:=2) tS.nd rfl (B5 rfl) (B8 c1 hr rfl (b7 (pv 0) (b7 (pv 1) d8))))
  (n5 (R0 (N6 JI (pv 2) (A7 lp j8 j8) (M5 _)) (v5 (C7 (N1 (b7 (A7 sj (pv 2) (A7 lp j8 j8)) (b7 Y4 d8))))) F6)
  (v5 (C7 (N1 (b7 (A7 fK (pv 2) j8) (b7 Y4 d8)))))),?_⟩
 have hp:Kt 10 18:=⟨by decide,by decide,by decide⟩
 refine ⟨_,rfl,_,rfl,a,ns,k,rfl,ha,fun x=>?_⟩
 refine ⟨_,rfl,_,_,rfl,rfl,hp,_,_,rfl,rfl,_,rfl,?_⟩
 refine wU (fun c=>?_) (fun c=>?_)
 ·exact ⟨_,rfl,_,_,rfl,rfl,hp,_,_,rfl,rfl,(by show 2<=i7;decide),fun l hl=>q l _ _ hl (fun z=>by cases z)⟩
 ·exact ⟨_,rfl,_,_,rfl,rfl,(by show (0:Int)<2147483647;decide),(by show 2<=i7;decide),fun l hl=>q l _ _ hl (fun _=>⟨aX _ (by decide),X9 _ (by decide)⟩)⟩
noncomputable def aM:Sp:=fun vs H Q _=>∃(l:Addr) (m x:Int) (b:Bool),vs=[.ref l,.int m]/\H l=some (.lst [.int x,.bl b])/\lF x b/\1<=m/\m<=1000 /\
 ∀(y:Nat) (x':Int),(y:Int)<m->lF x' b->Q (.int y) (t6 H l (.lst [.int x',.bl b]))
noncomputable abbrev wg:Stmt:=eI 43
theorem mI:C3 ["_law_state_here","_law_many","_law_found","_law_mixed"] ["_law_state_here","_law_many"] (v9 wg):=⟨rfl,rfl,rfl,by decide +kernel,rfl,by decide +kernel,by decide +kernel⟩
theorem Ex (F:aY K "_law_take" "_law_take" wg f fd):M0 P w K mg base cH 1 f fd ["_law_state_here","_law_many"] aM:=by
 refine F.ok mI (fun vs H Q E h=>?_) (fun cdv A outer s H vs Q E hr h=>?_)
 ·obtain ⟨l,m,x,b,rfl,_⟩:=h
  rfl
 obtain ⟨l,m,x,b,rfl,hl,hst,m1,m2,q⟩:=h
 refine ⟨_,n5 (R0 (V5 (G1 O7 (pv 0) j8 (fun _ _=>rfl)))
   (n5 (D6 (i:=2) mI.nd rfl (B5 rfl) (A7 fK (G1 O7 (pv 0) j8 (fun _ _=>rfl)) (pv 1)))
   (n5 (kZ (A7 xU (G1 O7 (pv 0) j8 (fun _ _=>rfl)) (pv 1)) (rX (pv 0) j8 jT))
   (v5 (C7 (pv 2))))) F6)
  (n5 (kZ (A7 fK (A7 P7 (A7 fJ (G1 O7 (pv 0) j8 (fun _ _=>rfl)) j8) j8) j8) (rX (pv 0) j8 jT))
  (n5 (D6 (i:=3) mI.nd rfl (B5 rfl) (A7 fK (A7 P7 (A7 P7 (A7 fJ (G1 O7 (pv 0) j8 (fun _ _=>rfl)) (G1 O7 (pv 0) j8 (fun _ _=>rfl))) (A7 fJ j8 (G1 O7 (pv 0) j8 (fun _ _=>rfl)))) j8) j8))
  (n5 (D6 (i:=3) mI.nd rfl (B5 rfl) (A7 fK (A7 P7 (A7 fJ (pv 3) (pv 3)) (A7 fJ j8 (pv 3))) j8))
  (v5 (C7 (A7 fK (A7 xU (pv 3) j8) (pv 1))))))),?_⟩
 have fin:∀(z x':Int),lF x' b->Q (.int (z % m)) (t6 H l (.lst [.int x',.bl b])):=fun z x' h=>by
  have h1:=aX z (show m≠0 by lia)
  have h2:=X9 z (show 0<m by lia)
  have e:z % m=(((z % m).toNat:Nat):Int):=by lia
  rw[e]
  exact q _ x' (by lia) h
 refine ⟨_,rfl,l,_,_,_,rfl,rfl,.of hl,C8 (j:=1) rfl,_,rfl,?_⟩
 cases b with
 | true =>
  refine P8 ⟨_,rfl,l,_,_,_,rfl,rfl,.of hl,C8 (j:=0) rfl,_,rfl,_,_,rfl,rfl,(by lia),?_⟩
  refine ⟨_,rfl,l,_,_,_,rfl,rfl,.of hl,C8 (j:=0) rfl,_,rfl,_,_,rfl,rfl,⟨by lia,by lia⟩,_,rfl,l,_,_,0,rfl,rfl,hl,rfl,?_⟩
  exact ⟨_,rfl,fin _ _ (fun z=>by cases z)⟩
 | false =>
  obtain ⟨x0,x1⟩:=hst rfl
  refine Q3 ⟨_,rfl,l,_,_,_,rfl,rfl,.of hl,C8 (j:=0) rfl,_,_,rfl,rfl,.inl ⟨by lia,by lia⟩,_,_,rfl,rfl,_,_,rfl,rfl,(by show (0:Int)<2147483647;decide),_,rfl,l,_,_,0,rfl,rfl,hl,rfl,?_⟩
  have y0:=aX (x*48271+29) (show (2147483647:Int)≠0 by decide)
  have y1:=X9 (x*48271+29) (show (0:Int)<2147483647 by decide)
  show fk _ _ _ _ (t6 H l (.lst [.int ((x*48271+29) % 2147483647),.bl false]))
  generalize (x*48271+29) % 2147483647=y at y0 y1
  have hl2:t6 H l (.lst [.int y,.bl false]) l=some (.lst [.int y,.bl false]):=f6
  refine ⟨_,rfl,l,_,_,_,rfl,rfl,.of hl2,C8 (j:=0) rfl,_,rfl,l,_,_,_,rfl,rfl,.of hl2,C8 (j:=0) rfl,_,_,rfl,rfl,.inl ⟨by lia,by lia⟩,_,rfl,l,_,_,_,rfl,rfl,.of hl2,C8 (j:=0) rfl,_,_,rfl,rfl,.inr ⟨by lia,by lia⟩,_,_,rfl,rfl,_,_,rfl,rfl,_,_,rfl,rfl,(by show (0:Int)<2147483629;decide),?_⟩
  have z0:=aX (y*y+39373*y+7) (show (2147483629:Int)≠0 by decide)
  have z1:=X9 (y*y+39373*y+7) (show (0:Int)<2147483629 by decide)
  generalize (y*y+39373*y+7) % 2147483629=z at z0 z1
  refine ⟨_,rfl,_,rfl,_,_,rfl,rfl,.inl ⟨by lia,by lia⟩,_,rfl,_,_,rfl,rfl,.inr ⟨by lia,by lia⟩,_,_,rfl,rfl,_,_,rfl,rfl,(by show (0:Int)<2147483587;decide),?_⟩
  exact ⟨_,rfl,_,_,rfl,rfl,⟨by decide,by decide⟩,_,rfl,_,_,rfl,rfl,(by lia),fin _ _ (fun _=>⟨y0,y1⟩)⟩
end
structure Bt2 (mg:Str->Option d6):Prop where
 any:mg "any"=none
theorem vc:V4 "any"=some (.builtin "any"):=by decide +kernel
theorem mO:∀{ns:List Int},(∀x∈ns,0<=x)->(ns.map V.int).any jN=decide (0<ns.sum)
 | [],_=>rfl
 | a::ns,h=>by
  have h1:=h a i4
  have h2:=Mt.de (l:=ns) fun x hx=>h x (f7 _ hx)
  rw[B9,kP,mO fun x hx=>h x (f7 _ hx),K5]
  show ((a != 0) || _)=_
  by_cases ha:a=0
  ·subst ha
   rw[Int.zero_add];rfl
  ·rw[bne_iff_ne.mpr ha,xo,decide_eq_true (by lia)]
noncomputable def wInt:A2->Bool
 | .int _=>true
 | _=>false
section
variable {P:j9}{w:t9}{K:m9}{mg:Str->Option d6}{base:Heap}{f:Addr}{fd:C4}
noncomputable def cS:Sp:=fun vs H Q _=>∃(v:V) (st:Addr) (d:A2),vs=[v]/\Dt st H d v/\Q (.bl (wInt d)) H
noncomputable abbrev rG:Stmt:=eI 50
theorem AN:C3 ["_law_thing"] ["_law_thing"] (v9 rG):=⟨rfl,rfl,rfl,by decide +kernel,rfl,by decide +kernel,by decide +kernel⟩
theorem BE (F:aY K "_law_whole" "_law_whole" rG f fd) (B:Bt mg):M0 P w K mg base cH 1 f fd ["_law_thing"] cS:=by
 refine F.ok AN (fun vs H Q E h=>?_) (fun cdv A outer s H vs Q E hr h=>?_)
 ·obtain ⟨v,st,d,rfl,_⟩:=h
  rfl
 obtain ⟨v,st,d,rfl,hd,q⟩:=h
 refine ⟨_,v5 (C7 (cC (t7 (Q4 ye) rfl B.isinstance A1 (b7 (pv 0) (b7 (S8 rfl B.int jl) d8)))
  (cB (wz (t7 (Q4 kg) rfl B.isinstance A1 (b7 (pv 0) (b7 (S8 rfl B.bool Df) d8))))))),?_⟩
 refine ⟨_,rfl,v,st,d,rfl,hd,_,rfl,?_⟩
 cases d with
 | bool b=>exact P8 ⟨_,rfl,v,st,_,rfl,hd,_,rfl,q⟩
 | int i=>exact P8 ⟨_,rfl,v,st,_,rfl,hd,_,rfl,q⟩
 | _=>exact Q3 q
theorem uw {c1:Unit}{st:Addr}{H:Hp}{hi:Int}{x:V}{d:A2}{Q:VK} (dt:Dt st H d x) (q:Q (.bl (N5 0 hi d)) H):
  Fu (Jl cS (bV (O9 0) jQ)) (vS (tZ fun i j=>.bl (decide (i<=j))) (tZ fun i j=>.bl (decide (i<=j))) (tC (.int 0)) (O9 0) (tC (.int hi))) [some x] H Q:=by
 refine ⟨_,rfl,x,st,d,rfl,dt,_,rfl,?_⟩
 cases d with
 | int i =>
  refine P8 ?_
  unfold Dt at dt
  subst dt
  refine ⟨_,rfl,0,i,rfl,rfl,_,rfl,?_⟩
  have q':Q (.bl (decide (0<=i)&&decide (i<=hi))) H:=q
  by_cases h1:0<=i
  ·rw[decide_eq_true h1,K6] at q'
   rw[decide_eq_true h1]
   exact P8 ⟨i,hi,rfl,rfl,q'⟩
  ·rw[decide_eq_false h1,F8] at q'
   rw[decide_eq_false h1]
   exact Q3 q'
 | _=>exact Q3 q
noncomputable abbrev kW:Stmt:=eI 51
theorem wb:C3 ["_law_thing"] ["_law_thing"] (v9 kW):=⟨rfl,rfl,rfl,by decide +kernel,rfl,by decide +kernel,by decide +kernel⟩
theorem wD (F:aY K "_law_is_urn" "_law_is_urn" kW f fd) (B:Bt mg) (B2:Bt2 mg) (c1:S2 P w K mg base 1 "_law_whole" ["_law_thing"] cS):M0 P w K mg base cH 2 f fd ["_law_thing"] cU:=by
 refine F.ok wb (fun vs H Q E h=>?_) (fun cdv A outer s H vs Q E hr h=>?_)
 ·obtain ⟨v,st,d,rfl,_⟩:=h
  rfl
 obtain ⟨v,st,d,rfl,hd,hl,q⟩:=h
 refine ⟨_,n5 (R0 (PW.pt (jU (Y3 (V5 (t7 (Q4 dW) rfl B.isinstance A1 (b7 (pv 0) (b7 (S8 rfl B.tuple E7) d8)))))
   (fF (Y3 (Bn ij ij j8 (t7 B7 rfl B.len A5 (b7 (pv 0) d8)) j8))))) (v5 (C7 Y4)) F6)
  (v5 (C7 (cC (t7 (Z4 rfl) rfl B.all qX (b7 (J9 (N:=["_law_many"]) (ix:=[none]) (ifs:=[]) (tc:=Q2) rfl (jx (pv 0)) (fun s H ex=>aE (i:=0) (by decide +kernel) rfl (B5 rfl) (.inr rfl)) (fun s H ex=>F9) (fun s H ex=>cC (B8 c1 hr rfl (b7 (pv 0) d8)) (cB (ig ij ij j8 (pv 0) j8))) rfl (by decide +kernel) (by rfl) (by rfl) (fun _=>rfl)) d8)) (cB (t7 (kD rfl) rfl B2.any vc (b7 (pv 0) d8)))))),?_⟩
 refine ⟨_,rfl,v,st,d,rfl,hd,_,rfl,?_⟩
 have no:(∀ds,d=.tuple ds->¬ (1<=ds.length/\ds.length<=4) ∨ ds.all (N5 0 20)=false)->dY 20 d=false:=fun h=>by
  unfold dY
  cases d with
  | tuple ds =>
   rcases h ds rfl with z|z
   ·show (ds.all (N5 0 20)&&((decide ((1:Int)<=(ds.length:Int))&&decide ((ds.length:Int)<=4))&&_))=false
    have:(decide ((1:Int)<=(ds.length:Int))&&decide ((ds.length:Int)<=4))=false:=by
     rw[Bool.and_eq_false_iff,decide_eq_false_iff_not,decide_eq_false_iff_not];lia
    rw[this,F8,bJ]
   ·show (ds.all (N5 0 20)&&_)=false
    rw[z,F8]
  | _=>rfl
 cases d with
 | tuple ds =>
  obtain ⟨a,xs,e,ne,ha,hds⟩:=hd.untup
  subst e
  have hlen:=hds.len
  refine Q3 ⟨_,rfl,a,xs,rfl,.inr (.of ha),_,_,rfl,rfl,_,rfl,?_⟩
  have qb:∀(b:Bool) (H':Hp),j7 H H'->dY 20 (.tuple ds)=b->Q (.bl b) H':=fun b H' g e=>by rw[<- e];exact q H' g
  have bad:¬ (1<=ds.length/\ds.length<=4)->Q (.bl false) H:=fun z=>qb false H (j7.refl H) (no fun ds' e=>by cases e;exact .inl z)
  rw[<- hlen]
  by_cases h1:(1:Int)<=(ds.length:Int)
  ·rw[decide_eq_true h1]
   refine P8 ⟨_,_,rfl,rfl,_,rfl,?_⟩
   by_cases h4:(ds.length:Int)<=4
   ·rw[decide_eq_true h4]
    refine Q3 ⟨_,rfl,a,rfl,⟨xs,.of ha⟩,kE (K:=K) (a:=a) (xs:=xs) (sz (by lia)) (fun i ys H2=>j7 H H2/\i<=ds.length/\ys=(ds.take i).map fun d=>V.bl (N5 0 20 d)) ⟨j7.refl H,u9 _,rfl⟩ (fun i ys H2 h=>?_) (fun i ys H2 _ h=>.of (h.1 _ _ ha)) rfl (fun i ys H2 x hx h=>?_) (fun ys H2 h=>?_)⟩
    ·obtain ⟨_,hi,rfl⟩:=h
     rw[b9,A4];lia
    ·obtain ⟨hS,hil,rfl⟩:=h
     obtain ⟨d,hd',dt⟩:=hds.get hx
     refine uw (c1:=()) (hi:=20) (dt.kp (hS.kp st)) ⟨hS,(List.getElem?_eq_some_iff.mp hd').1,?_⟩
     rw[C2,hd',n9];rfl
    ·obtain ⟨hS,hil,rfl⟩:=h
     intro p hp
     have e:(((ds.take xs.length).map fun d=>V.bl (N5 0 20 d)).all jN)=K9 0 20 (.tuple ds):=by
      rw[<- hlen,D8,G5];rfl
     refine ⟨p,_,rfl,.inl (.of f6),(by rw[G5];exact List.all_eq_true.mpr fun _ _=>rfl),_,rfl,?_⟩
     rw[e]
     cases hw:K9 0 20 (.tuple ds) with
     | false =>
      exact Q3 (qb false _ (hS.trans (j7.new hp)) (no fun ds' e=>by cases e;exact .inr hw))
     | true =>
      obtain ⟨ns,e,hns⟩:=oD (show ds.all (N5 0 20)=true from hw)
      subst e
      have hxs:=hds.ints_eq
      subst hxs
      have hlen2:(ns.map G4).length=ns.length:=b9 ..
      refine P8 ⟨_,rfl,a,_,rfl,.inr (.of ((hS.trans (j7.new hp)) _ _ ha)),(by rw[G5];exact List.all_eq_true.mpr fun _ _=>rfl),?_⟩
      rw[hlen2] at h1 h4
      refine qb _ _ (hS.trans (j7.new hp)) ?_
      unfold dY
      rw[V9,mG,hw,K6,decide_eq_true h1,decide_eq_true h4,K6,K6,mO fun x hx=>(hns x hx).1]
   ·rw[decide_eq_false h4]
    exact P8 (bad fun z=>h4 (by lia))
  ·rw[decide_eq_false h1]
   exact Q3 ⟨_,rfl,P8 (bad fun z=>h1 (by lia))⟩
 | _=>exact P8 (P8 (by have:=q H (j7.refl H);rw[no fun ds e=>by cases e] at this;exact this))
noncomputable def gW:Sp:=fun vs H Q _=>∃(v:V) (st:Addr) (d:A2) (k:Int),vs=[.int k,v]/\Dt st H d v/\k<=1000/\∀H',j7 H H'->Q (.bl (dU k d)) H'
noncomputable abbrev jt:Stmt:=eI 52
theorem lO:C3 ["_law_kinds","_law_thing","_law_row"] ["_law_kinds","_law_thing"] (v9 jt):=⟨rfl,rfl,rfl,by decide +kernel,rfl,by decide +kernel,by decide +kernel⟩
theorem ui (F:aY K "_law_is_rule" "_law_is_rule" jt f fd) (B:Bt mg) (c1:S2 P w K mg base 1 "_law_whole" ["_law_thing"] cS):M0 P w K mg base cH 2 f fd ["_law_kinds","_law_thing"] gW:=by
 refine F.ok lO (fun vs H Q E h=>?_) (fun cdv A outer s H vs Q E hr h=>?_)
 ·obtain ⟨v,st,d,k,rfl,_⟩:=h
  rfl
 obtain ⟨v,st,d,k,rfl,hd,hk1000,q⟩:=h
 refine ⟨_,n5 (R0 (PW.pt (jU (Y3 (V5 (t7 (Q4 dW) rfl B.isinstance A1 (b7 (pv 1) (b7 (S8 rfl B.tuple E7) d8)))))
   (fF (N6 jg (t7 B7 rfl B.len A5 (b7 (pv 1) d8)) (pv 0) (M5 _))))) (v5 (C7 Y4)) F6)
  (n5 (eh K1 rfl (jx (pv 1)) (U0 (i:=2) lO.nd rfl (B5 rfl))
   (n5 (R0 (PW.pt (jU (Y3 (V5 (t7 (Q4 dW) rfl B.isinstance A1 (b7 (pv 2) (b7 (S8 rfl B.tuple E7) d8)))))
   (fF (N6 jg (t7 B7 rfl B.len A5 (b7 (pv 2) d8)) (pv 0) (M5 _))))) (v5 (C7 Y4)) F6)
   (v5 (R0 (Y3 (V5 (t7 (Z4 rfl) rfl B.all qX (b7 (J9 (N:=["_law_many"]) (ix:=[none]) (ifs:=[]) (tc:=Q2) rfl (jx (pv 2)) (fun s H ex=>aE (i:=0) (by decide +kernel) rfl (B5 rfl) (.inr rfl)) (fun s H ex=>F9) (fun s H ex=>cC (B8 c1 hr rfl (b7 (pv 0) d8)) (cB (ig ij ij j8 (pv 0) j8))) rfl (by decide +kernel) (by rfl) (by rfl) (fun _=>rfl)) d8)))) (v5 (C7 Y4)) F6))))
  (v5 (C7 Y4))),?_⟩
 refine ⟨_,rfl,v,st,d,rfl,hd,_,rfl,?_⟩
 cases d with
 | tuple ds =>
  obtain ⟨a,xs,e,ne,ha,hds⟩:=hd.untup
  subst e
  have hlen:=hds.len
  have qr:∀(b:Bool) (H':Hp),j7 H H'->b=(decide ((ds.length:Int)=k)&&ds.all (fun r=>K9 0 5 r&&decide ((bZ r:Int)=k)))->Q (.bl b) H':=fun b H' g e=>by
   have:=q H' g
   rw[e]
   exact this
  refine Q3 ⟨_,rfl,a,xs,rfl,.inr (.of ha),_,rfl,rfl,_,rfl,?_⟩
  by_cases hk:(ds.length:Int)=k
  ·have e1:V.int (xs.length:Int)=V.int k:=by rw[<- hlen,hk]
   rw[decide_eq_true e1]
   refine Q3 ⟨_,rfl,a,rfl,⟨xs,.of ha⟩,?_⟩
   refine yl (K:=K) (a:=a) (xs:=xs) (fun i σ H2=>j7 H H2/\i<=ds.length/\(∃o,σ=[some (.int k),some (.ref a),o])/\(ds.take i).all (fun r=>K9 0 5 r&&decide ((bZ r:Int)=k))=true) ⟨j7.refl H,u9 _,⟨_,rfl⟩,rfl⟩ (fun i σ H2 _ h=>.of (h.1 _ _ ha)) (fun i x σ H2 hx h=>?_) (fun σ H2 h=>?_)
   ·obtain ⟨g2,hi,⟨o,rfl⟩,hal⟩:=h
    obtain ⟨r,hd',dt0⟩:=hds.get hx
    have dt:=dt0.kp (g2.kp st)
    have bad:(K9 0 5 r&&decide ((bZ r:Int)=k))=false->∀H3,j7 H H3->Q (.bl false) H3:=fun z H3 g3=>qr _ _ g3 (by
     rw[decide_eq_true hk,K6]
     refine (Bool.eq_false_iff.mpr fun y=>?_).symm
     rw[List.all_eq_true.mp y r (B0 hd')] at z
     cases z)
    refine ⟨_,rfl,x,st,r,rfl,dt,_,rfl,?_⟩
    cases r with
    | tuple rs =>
     obtain ⟨b,ys,e,_,hb,hrs⟩:=dt.untup
     subst e
     have hl2:=hrs.len
     refine Q3 ⟨_,rfl,b,ys,rfl,.inr (.of hb),_,rfl,rfl,_,rfl,?_⟩
     by_cases hk2:(rs.length:Int)=k
     ·have e2:V.int (ys.length:Int)=V.int k:=by rw[<- hl2,hk2]
      rw[decide_eq_true e2]
      refine Q3 ⟨_,rfl,b,rfl,⟨ys,.of hb⟩,kE (K:=K) (a:=b) (xs:=ys) (sz (by lia)) (fun j zs H3=>j7 H2 H3/\j<=rs.length/\zs=(rs.take j).map fun d=>V.bl (N5 0 5 d)) ⟨j7.refl _,u9 _,rfl⟩ (fun j zs H3 h=>?_) (fun j zs H3 _ h=>.of (h.1 _ _ hb)) rfl (fun j zs H3 y hy h=>?_) (fun zs H3 h=>?_)⟩
      ·obtain ⟨_,hj,rfl⟩:=h
       rw[b9,A4];lia
      ·obtain ⟨g3,hj,rfl⟩:=h
       obtain ⟨d,hd3,dt3⟩:=hrs.get hy
       refine uw (c1:=()) (hi:=5) (dt3.kp (g3.kp st)) ⟨g3,(List.getElem?_eq_some_iff.mp hd3).1,?_⟩
       rw[C2,hd3,n9];rfl
      ·obtain ⟨g3,hj,rfl⟩:=h
       intro p hp
       have e:(((rs.take ys.length).map fun d=>V.bl (N5 0 5 d)).all jN)=K9 0 5 (.tuple rs):=by
        rw[<- hl2,D8,G5];rfl
       refine ⟨p,_,rfl,.inl (.of f6),(by rw[G5];exact List.all_eq_true.mpr fun _ _=>rfl),_,rfl,?_⟩
       rw[e]
       cases hw:K9 0 5 (.tuple rs) with
       | false =>
        refine P8 (bad ?_ _ ((g2.trans g3).trans (j7.new hp)))
        rw[hw,F8]
       | true =>
        refine Q3 ⟨(g2.trans g3).trans (j7.new hp),(List.getElem?_eq_some_iff.mp hd').1,⟨_,rfl⟩,?_⟩
        rw[C2,hd',List.all_append,hal]
        show (true&&([PyData.tuple rs].all _))=true
        rw[vz,hw,show decide ((bZ (.tuple rs):Int)=k)=true from decide_eq_true hk2];rfl
     ·have e2:¬ V.int (ys.length:Int)=V.int k:=fun e=>hk2 (by rw[hl2];injection e)
      rw[decide_eq_false e2]
      refine P8 (bad ?_ H2 g2)
      rw[show decide ((bZ (.tuple rs):Int)=k)=false from decide_eq_false hk2,bJ]
    | _=>exact P8 (P8 (bad rfl H2 g2))
   ·obtain ⟨g2,_,⟨o,rfl⟩,hal⟩:=h
    rw[<- hlen,D8] at hal
    exact qr _ _ g2 (by rw[decide_eq_true hk,hal];rfl)
  ·have e1:¬ V.int (xs.length:Int)=V.int k:=fun e=>hk (by rw[hlen];injection e)
   rw[decide_eq_false e1]
   exact P8 (qr _ _ (j7.refl H) (by rw[decide_eq_false hk];rfl))
 | _=>exact P8 (P8 (q H (j7.refl H)))
end
variable {n:Nat}
theorem sx (h:k<n):EI n (k:Int)=some k:=by
 unfold EI
 rw[if_pos (by lia),if_pos (by lia)];simp
theorem nE:∀{l:List Int}{y:Nat}{v:Int},(∀x∈l,0<=x)->0<v->y<l.length->0<(l.set y v).sum
 | [],y,_,_,_,h=>by simp at h
 | a::l,0,v,h,hv,_=>by
  rw[List.set_cons_zero,K5]
  have:=Mt.de (l:=l) fun x hx=>h x (f7 _ hx)
  lia
 | a::l,y+1,v,h,hv,hy=>by
  rw[List.set_cons_succ,K5]
  have h1:=nE (l:=l) (y:=y) (fun x hx=>h x (f7 _ hx)) hv (by simpa using hy)
  have h2:=h a i4
  lia
noncomputable abbrev DR (rs:List (List Int)):A2:=.tuple (rs.map DI)
theorem gX (h:ns.length<=1000):aN (DI ns):=fun ds e=>by
 injection e with e
 rw[<- e,b9];exact h
variable {rs:List (List Int)}
theorem tQ (h:rs.length<=1000):aN (DR rs):=fun ds e=>by
 injection e with e
 rw[<- e,b9];exact h
theorem qf (h:ma n 5 rs) (hn:n<=1000):∀ds,DR rs=.tuple ds->∀r∈ds,aN r:=fun ds e r hr=>by
 injection e with e
 rw[<- e] at hr
 obtain ⟨row,hrow,e2⟩:=List.mem_map.mp hr
 rw[<- e2]
 exact gX (by rw[(h.row row hrow).len];exact hn)
theorem Ie {st:Addr}(h:Dt st H (DR rs) v) (hk:k<rs.length):
  ∃r xs b,v=.ref r/\H r=some (.tup xs)/\xs[k]?=some (.ref b)/\H b=some (.tup ((rs.getD k []).map V.int)):=by
 obtain ⟨r,xs,e,_,hr,hds⟩:=h.untup
 have hl:=hds.len
 rw[b9] at hl
 have hkx:k<xs.length:=by lia
 obtain ⟨d,hd,dt⟩:=hds.get (i:=k) (x:=xs[k]) (d9 hkx)
 rw[n8,d9 hk] at hd
 have e2:rs.getD k []=rs[k]:=by rw[j6,d9 hk];rfl
 have e3:d=DI rs[k]:=(D1 hd).symm
 subst e3
 obtain ⟨b,eb,_,hb⟩:=dt.di
 exact ⟨r,xs,b,e,hr,by rw[d9 hkx,eb],by rw[e2];exact hb⟩
theorem xy (h:mv n 20 ns) (h1:1<=n) (h4:n<=4):dY 20 (DI ns)=true:=by
 unfold dY
 rw[V9,mG,h.len,decide_eq_true (show (1:Int)<=(n:Int) by lia),decide_eq_true (show (n:Int)<=4 by lia),decide_eq_true h.pos]
 have:K9 0 20 (DI ns)=true:=by
  show (ns.map G4).all (N5 0 20)=true
  rw[G5]
  refine List.all_eq_true.mpr fun x hx=>?_
  have:=h.nn x hx
  show (decide ((0:Int)<=x)&&decide (x<=20))=true
  rw[decide_eq_true this.1,decide_eq_true (show x<=20 by lia)];rfl
 rw[this];rfl
theorem tX (h:ma n 5 rs):dU n (DR rs)=true:=by
 show (decide (((rs.map DI).length:Int)=n)&&(rs.map DI).all (fun r=>K9 0 5 r&&decide ((bZ r:Int)=n)))=true
 rw[b9,h.len,decide_eq_true rfl,K6,G5]
 refine List.all_eq_true.mpr fun r hr=>?_
 have hw:=h.row r hr
 show (K9 0 5 (DI r)&&decide ((bZ (DI r):Int)=n))=true
 rw[V9,hw.len,decide_eq_true rfl,vC]
 show (r.map G4).all (N5 0 5)=true
 rw[G5]
 refine List.all_eq_true.mpr fun x hx=>?_
 have:=hw.nn x hx
 show (decide ((0:Int)<=x)&&decide (x<=5))=true
 rw[decide_eq_true this.1,decide_eq_true (show x<=5 by lia)];rfl
variable {l:Addr}{xs:List V}
theorem HJ {p:Addr}{ys:List V} (hl:H l=some (.lst xs)) (hp:H p=some (.tup ys)):p≠l:=fun e=>by rw[e,hl] at hp;cases hp
theorem yG {st:Addr}{H:Hp}{d:A2}{v:V} (h:Dt st H d v):∀n:Nat,P3 st H (m6 n d) (m6 n v)
 | 0=>P3.nil st H
 | n+1=>P3.cons h (yG h n)
section
variable {X:Cx}
noncomputable def Jw:R2:=fun x y H Q=>∃(a:Addr) (v:V) (k:Nat),x=.ref a/\y=.int (k:Int)/\H a=some (.tup [v])/\1<=k/\k<=4/\∀p H',j7 H H'->H' p=some (.tup (m6 k v))->Q (.ref p) H'
theorem Ee:gK X (R1 .Mult) Jw:=by
 intro pins s σ H x y v u Q I rx ry h
 obtain ⟨a,v',k,rfl,rfl,ha,h1,h4,q⟩:=h
 refine xR pins s σ H _ _ v u Q I rx ry ⟨a,v',(k:Int),rfl,rfl,.of ha,by lia,by lia,fun hk=>?_,fun hk p hp=>?_⟩
 ·have hk':k=1:=by lia
  subst hk'
  exact q a H (j7.refl H) ha
 ·exact q p _ (j7.new hp) f6
noncomputable def fE:V->Option Int->Option Int->Hp->VK->Prop:=fun x lo hi H Q=>∃(a:Addr) (xs:List V),x=.ref a/\H a=some (.tup xs)/\∀p H',j7 H H'->H' p=some (.tup (gC xs lo hi))->Q (.ref p) H'
theorem lN:KL X fE:=by
 intro pins s σ H x v vl vu lo hi sl Q I rx hs pl pu h
 obtain ⟨a,xs,rfl,ha,q⟩:=h
 refine Gw pins s σ H _ v vl vu lo hi sl Q I rx hs pl pu ⟨a,xs,rfl,.of ha,fun hw=>?_,fun hw p hp=>?_⟩
 ·refine q a H (j7.refl H) ?_
  unfold gC
  rw[hw.1,hw.2,eF,mU,D8];exact ha
 ·exact q p _ (j7.new hp) f6
end
section
variable {P:j9}{w:t9}{K:m9}{mg:Str->Option d6}{base:Heap}{f:Addr}{fd:C4}
noncomputable def Y0 (l:Addr) (b:Bool) (H H':Hp):Prop:=Kp l H H'/\∃x,H' l=some (.lst [.int x,.bl b])/\lF x b
variable {l:Addr}{b:Bool}{H:Hp}
theorem Y0.start {x:Int} (h:H l=some (.lst [.int x,.bl b])) (ok:lF x b):Y0 l b H H:=⟨Kp.refl l H,x,h,ok⟩
variable {H1:Hp}
theorem Y0.same {H2:Hp} (s:Y0 l b H H1) (g:j7 H1 H2):Y0 l b H H2:=by
 obtain ⟨k,x,h,ok⟩:=s
 exact ⟨k.trans (g.kp l),x,g _ _ h,ok⟩
theorem Y0.new {l:Addr}{b:Bool}{H H1:Hp}{p:Addr}{o:HO} (s:Y0 l b H H1) (h:H1 p=none):Y0 l b H (t6 H1 p o):=s.same (j7.new h)
theorem Y0.trans {l:Addr}{b:Bool}{H H1 H2:Hp} (s:Y0 l b H H1) (t:Y0 l b H1 H2):Y0 l b H H2:=⟨s.1.trans t.1,t.2⟩
variable {p:Addr}
theorem Y0.ne (s:Y0 l b H H1) (h:H1 p=none):l≠p:=by
 obtain ⟨_,x,e,_⟩:=s
 exact v8 e h
theorem Y0.go {x:Int} (s:Y0 l b H H1) (ok:lF x b):Y0 l b H (t6 H1 l (.lst [.int x,.bl b])):=⟨s.1.trans Kp.at,x,f6,ok⟩
theorem Y0.neL {xs:List V} (s:Y0 l b H H1) (h:H1 p=some (.tup xs)):p≠l:=fun e=>by
 obtain ⟨_,x,q,_⟩:=s
 rw[e,q] at h;cases h
theorem Y0.lput {o:HO} (s:Y0 l b H H1) (hpl:p≠l) (hpn:H p=none):Y0 l b H (t6 H1 p o):=by
 obtain ⟨k,x',e,ok⟩:=s
 exact ⟨fun c o hc hco=>by rw[B6 (fun z=>by rw[z,hpn] at hco;cases hco)];exact k c o hc hco,x',by rw[B6 hpl.symm];exact e,ok⟩
noncomputable def rA:Sp:=fun vs H Q _=>∃(l:Addr) (n:Nat) (x:Int) (b:Bool),vs=[.ref l,.int n]/\H l=some (.lst [.int x,.bl b])/\lF x b/\1<=n/\n<=4 /\
 ∀(p:Addr) (H':Hp) (ns:List Int),Y0 l b H H'->H' p=some (.tup (ns.map V.int))->Mt.mv n 20 ns->Q (.ref p) H'
noncomputable abbrev wm:Stmt:=eI 44
theorem rD:C3 ["_law_state_here","_law_kinds","_law_most","_law_found"] ["_law_state_here","_law_kinds"] (v9 wm):=⟨rfl,rfl,rfl,by decide +kernel,rfl,by decide +kernel,by decide +kernel⟩
theorem Ez (F:aY K "_law_urn_of" "_law_urn_of" wm f fd) (B:Bt mg) (B2:Bt2 mg) (c1:S2 P w K mg base 1 "_law_take" ["_law_state_here","_law_many"] aM):M0 P w K mg base cH 2 f fd ["_law_state_here","_law_kinds"] rA:=by
 refine F.ok rD (fun vs H Q E h=>?_) (fun cdv A outer s H vs Q E hr h=>?_)
 ·obtain ⟨l,n,x,b,rfl,_⟩:=h
  rfl
 obtain ⟨l,n,x,b,rfl,hl,hst,n1,n4,q⟩:=h
 refine ⟨_,n5 (D6 (i:=2) rD.nd rfl (Z7 rfl) (G1 O7 (N1 (b7 j8 (b7 j8 (b7 j8 (b7 j8 d8))))) (B8 c1 hr rfl (b7 (pv 0) (b7 j8 d8))) (fun _ _=>rfl)))
  (n5 (ic (N:=["_law_kind","_law_state_here","_law_most"]) (ix:=[none,some 0,some 2]) (ifs:=[]) (tc:=Q2) (i:=3) rfl rD.nd rfl rfl (K3 rfl B.range (b7 (pv 1) d8))
   (fun s H ex=>aE (i:=0) (by decide +kernel) rfl (B5 rfl) (.inr rfl)) (fun s H ex=>F9) (fun s H ex=>B8 c1 hr rfl (b7 (pv 1) (b7 (pv 2) d8))) rfl (by decide +kernel) (by rfl) (by rfl) (fun _=>rfl) (by rfl))
  (n5 (R0 (N6 ik (B8 c1 hr rfl (b7 (pv 0) (b7 j8 d8))) j8 (M5 _)) (v5 (kZ j8 (rX (pv 3) (B8 c1 hr rfl (b7 (pv 0) (b7 (pv 1) d8))) jT))) F6)
  (n5 (R0 (Y3 (V5 (t7 (kD rfl) rfl B2.any vc (b7 (pv 3) d8)))) (v5 (kZ (A7 P7 j8 (B8 c1 hr rfl (b7 (pv 0) (b7 j8 d8)))) (rX (pv 3) (B8 c1 hr rfl (b7 (pv 0) (b7 (pv 1) d8))) jT))) F6)
  (v5 (C7 (E6 K2 rfl B.tuple E7 (b7 (pv 3) d8))))))),?_⟩
 have s0:Y0 l b H H:=Y0.start hl hst
 refine ⟨(by show 4<=i7;decide),fun p0 hp0=>⟨_,rfl,?_⟩⟩
 have s1:Y0 l b H (t6 H p0 (.lst [.int 3,.int 3,.int 6,.int 21])):=s0.new hp0
 obtain ⟨_,x1,hx1,ok1⟩:=id s1
 refine ⟨l,4,x1,b,rfl,hx1,ok1,by decide,by decide,fun y x2 hy Ad=>?_⟩
 have s2:=s1.go Ad
 have k2:Kp l (t6 H p0 (.lst [.int 3,.int 3,.int 6,.int 21])) (t6 (t6 H p0 (.lst [.int 3,.int 3,.int 6,.int 21])) l (.lst [.int x2,.bl b])):=Kp.at
 generalize t6 (t6 H p0 (.lst [.int 3,.int 3,.int 6,.int 21])) l (.lst [.int x2,.bl b])=H1 at s2 k2
 have hp1:H1 p0=some (.lst [.int 3,.int 3,.int 6,.int 21]):=k2 _ _ (s0.ne hp0).symm f6
 obtain ⟨m,hm,m1,m2⟩:∃m:Int,([.int 3,.int 3,.int 6,.int 21]:List V)[y]?=some (.int m)/\1<=m/\m<=21:=by
  have hy':y<4:=by lia
  match y,hy' with
  | 0,_=>exact ⟨3,rfl,by decide,by decide⟩
  | 1,_=>exact ⟨3,rfl,by decide,by decide⟩
  | 2,_=>exact ⟨6,rfl,by decide,by decide⟩
  | 3,_=>exact ⟨21,rfl,by decide,by decide⟩
 refine ⟨p0,_,_,_,rfl,rfl,.of hp1,C8 hm,?_⟩
 refine ⟨_,rfl,(n:Int),rfl,by lia,by lia,?_⟩
 refine O4 (lo:=0) (n:=n) (sz (by lia)) (fun i ys H2=>Y0 l b H H2/\∃ns:List Int,ys=ns.map V.int/\ns.length=i/\∀z∈ns,0<=z/\z<=20)
  ⟨s2,[],rfl,rfl,by simp⟩ (fun i ys H2 h=>?_) rfl (fun i ys H2 hi h=>?_) (fun ys H2 h=>?_)
 ·obtain ⟨_,ns,rfl,hn,_⟩:=h
  rw[b9];exact hn
 ·obtain ⟨s3,ns,rfl,hn,hb⟩:=h
  obtain ⟨_,x3,hx3,ok3⟩:=id s3
  refine ⟨_,rfl,_,rfl,l,m,x3,b,rfl,hx3,ok3,m1,by lia,fun y x4 hy ok4=>?_⟩
  refine ⟨s3.go ok4,ns++[(y:Int)],by rw[n9];rfl,by rw[t8,hn];rfl,fun z hz=>?_⟩
  rcases List.mem_append.mp hz with h|h
  ·exact hb z h
  ·rw[List.mem_singleton.mp h];lia
 ·obtain ⟨s3,ns,rfl,hn,hb⟩:=h
  intro p hp
  have s4:Y0 l b H (t6 H2 p (.lst (ns.map V.int))):=s3.new hp
  have hpl:p≠l:=(s3.ne hp).symm
  have hpn:H p=none:=by
   cases e:H p with
   | none=>rfl
   | some o=>rw[s3.1 p o hpl e] at hp;cases hp
  have hp4:t6 H2 p (.lst (ns.map V.int)) p=some (.lst (ns.map V.int)):=f6
  show fk _ _ _ _ (t6 H2 p (.lst (ns.map V.int)))
  generalize t6 H2 p (.lst (ns.map V.int))=H3 at s4 hp4
  obtain ⟨_,x4,hx4,ok4⟩:=id s4
  refine ⟨_,rfl,l,8,x4,b,rfl,hx4,ok4,by decide,by decide,fun y8 x8 hy8 ok8=>⟨rfl,_,rfl,?_⟩⟩
  have s8:=s4.go ok8
  have k8:Kp l H3 (t6 H3 l (.lst [.int x8,.bl b])):=Kp.at
  generalize t6 H3 l (.lst [.int x8,.bl b])=H8 at s8 k8
  have hp8:=k8 _ _ hpl hp4
  refine wU (fun _=>?_) (fun _=>?_)
  ·obtain ⟨_,x9,hx9,ok9⟩:=id s8
   refine ⟨_,rfl,_,rfl,_,rfl,l,n,x9,b,rfl,hx9,ok9,by lia,by lia,fun y9 xa hy9 oka=>?_⟩
   have s9:=s8.go oka
   have k9:Kp l H8 (t6 H8 l (.lst [.int xa,.bl b])):=Kp.at
   generalize t6 H8 l (.lst [.int xa,.bl b])=H9 at s9 k9
   have hp9:=k9 _ _ hpl hp8
   have hy9':y9<ns.length:=by lia
   refine ⟨p,_,_,y9,rfl,rfl,hp9,sx (by rw[b9];exact hy9'),?_⟩
   have sA:=s9.lput (o:=.lst ((ns.map V.int).set y9 (.int 20))) hpl hpn
   have hpA:t6 H9 p (.lst ((ns.map V.int).set y9 (.int 20))) p=some (.lst ((ns.set y9 20).map V.int)):=by rw[f6,mC]
   have hnA:(ns.set y9 20).length=n:=by rw[T6];exact hn
   have hbA:∀z∈ns.set y9 20,0<=z/\z<=20:=fun z hz=>by
    rcases av hz with h|h
    ·exact hb z h
    ·rw[h];decide
   show fk _ _ _ _ (t6 H9 p (.lst ((ns.map V.int).set y9 (.int 20))))
   generalize t6 H9 p (.lst ((ns.map V.int).set y9 (.int 20)))=HA at sA hpA
   generalize ns.set y9 20=nsA at hpA hnA hbA
   refine ⟨_,rfl,p,_,rfl,.inl (.of hpA),(by rw[G5];exact List.all_eq_true.mpr fun _ _=>rfl),_,rfl,?_⟩
   rw[mO fun x hx=>(hbA x hx).1]
   by_cases hz:0<nsA.sum
   ·rw[decide_eq_true hz]
    refine Q3 ⟨_,rfl,p,_,rfl,.inl ⟨.of hpA,fun t ht=>?_⟩⟩
    exact q t _ nsA (sA.new ht) f6 ⟨hnA,hbA,hz⟩
   ·rw[decide_eq_false hz]
    obtain ⟨_,xz,hxz,okz⟩:=id sA
    refine P8 ⟨_,rfl,l,3,xz,b,rfl,hxz,okz,by decide,by decide,fun v x5 hv ok5=>?_⟩
    have s5:=sA.go ok5
    have k5:Kp l HA (t6 HA l (.lst [.int x5,.bl b])):=Kp.at
    generalize t6 HA l (.lst [.int x5,.bl b])=H4 at s5 k5
    obtain ⟨_,x6,hx6,ok6⟩:=id s5
    refine ⟨_,_,rfl,rfl,_,rfl,_,rfl,_,rfl,l,n,x6,b,rfl,hx6,ok6,by lia,by lia,fun y x7 hy ok7=>?_⟩
    have s6:=s5.go ok7
    have k6:Kp l H4 (t6 H4 l (.lst [.int x7,.bl b])):=Kp.at
    generalize t6 H4 l (.lst [.int x7,.bl b])=H5 at s6 k6
    have hp5:H5 p=some (.lst (nsA.map V.int)):=k6 _ _ hpl (k5 _ _ hpl hpA)
    have hy':y<nsA.length:=by lia
    refine ⟨p,_,_,y,rfl,rfl,hp5,sx (by rw[b9];exact hy'),?_⟩
    refine ⟨_,rfl,p,_,rfl,.inl ⟨.of f6,fun t ht=>?_⟩⟩
    have s7:=s6.lput (o:=.lst ((nsA.map V.int).set y (.int (1+v)))) hpl hpn
    refine q t _ (nsA.set y (1+v)) (s7.new ht) (by rw[f6,mC]) ⟨by rw[T6];exact hnA,fun z hz=>?_,nE (fun z hz=>(hbA z hz).1) (by lia) hy'⟩
    rcases av hz with h|h
    ·exact hbA z h
    ·rw[h];lia
  ·show fk _ _ _ _ H8
   refine ⟨_,rfl,p,_,rfl,.inl (.of hp8),(by rw[G5];exact List.all_eq_true.mpr fun _ _=>rfl),_,rfl,?_⟩
   rw[mO fun x hx=>(hb x hx).1]
   by_cases hz:0<ns.sum
   ·rw[decide_eq_true hz]
    refine Q3 ⟨_,rfl,p,_,rfl,.inl ⟨.of hp8,fun t ht=>?_⟩⟩
    exact q t _ ns (s8.new ht) f6 ⟨hn,hb,hz⟩
   ·rw[decide_eq_false hz]
    obtain ⟨_,xz,hxz,okz⟩:=id s8
    refine P8 ⟨_,rfl,l,3,xz,b,rfl,hxz,okz,by decide,by decide,fun v x5 hv ok5=>?_⟩
    have s5:=s8.go ok5
    have k5:Kp l H8 (t6 H8 l (.lst [.int x5,.bl b])):=Kp.at
    generalize t6 H8 l (.lst [.int x5,.bl b])=H4 at s5 k5
    obtain ⟨_,x6,hx6,ok6⟩:=id s5
    refine ⟨_,_,rfl,rfl,_,rfl,_,rfl,_,rfl,l,n,x6,b,rfl,hx6,ok6,by lia,by lia,fun y x7 hy ok7=>?_⟩
    have s6:=s5.go ok7
    have k6:Kp l H4 (t6 H4 l (.lst [.int x7,.bl b])):=Kp.at
    generalize t6 H4 l (.lst [.int x7,.bl b])=H5 at s6 k6
    have hp5:H5 p=some (.lst (ns.map V.int)):=k6 _ _ hpl (k5 _ _ hpl hp8)
    have hy':y<ns.length:=by lia
    refine ⟨p,_,_,y,rfl,rfl,hp5,sx (by rw[b9];exact hy'),?_⟩
    refine ⟨_,rfl,p,_,rfl,.inl ⟨.of f6,fun t ht=>?_⟩⟩
    have s7:=s6.lput (o:=.lst ((ns.map V.int).set y (.int (1+v)))) hpl hpn
    refine q t _ (ns.set y (1+v)) (s7.new ht) (by rw[f6,mC]) ⟨by rw[T6];exact hn,fun z hz=>?_,nE (fun z hz=>(hb z hz).1) (by lia) hy'⟩
    rcases av hz with h|h
    ·exact hb z h
    ·rw[h];lia
end
theorem ou {y:Nat} (h:y<=xs.length):gC xs (some (y:Int)) none=xs.drop y:=by
 unfold gC
 have e1:HT.bK xs.length 0 (some (y:Int))=y:=by rw[HT.xG];lia
 rw[e1,HT.tW]
 exact R5 (by rw[cG];lia)
theorem oq {y:Nat} (h:y<=xs.length):gC xs none (some (y:Int))=xs.take y:=by
 unfold gC
 have e1:HT.bK xs.length xs.length (some (y:Int))=y:=by rw[HT.xG];lia
 rw[e1,HT.tW,eF,mU]
section
variable {P:j9}{w:t9}{K:m9}{mg:Str->Option d6}{base:Heap}{f:Addr}{fd:C4}
noncomputable def nv:Sp:=fun vs H Q _=>∃(l:Addr) (n:Nat) (x:Int) (b:Bool),vs=[.ref l,.int n]/\H l=some (.lst [.int x,.bl b])/\lF x b/\1<=n/\n<=4 /\
 ∀(v:V) (H':Hp) (rs:List (List Int)),Y0 l b H H'->Dt l H' (DR rs) v->Mt.ma n 5 rs->Q v H'
noncomputable abbrev rL:Stmt:=eI 45
theorem hG:C3 ["_law_state_here","_law_kinds","_law_way","_law_more","_law_row","_law_far"] ["_law_state_here","_law_kinds"] (v9 rL):=⟨rfl,rfl,rfl,by decide +kernel,rfl,by decide +kernel,by decide +kernel⟩
theorem BK (F:aY K "_law_rule" "_law_rule" rL f fd) (B:Bt mg) (c1:S2 P w K mg base 1 "_law_take" ["_law_state_here","_law_many"] aM):M0 P w K mg base cH 2 f fd ["_law_state_here","_law_kinds"] nv:=by
 refine F.ok hG (fun vs H Q E h=>?_) (fun cdv A outer s H vs Q E hr h=>?_)
 ·obtain ⟨l,n,x,b,rfl,_⟩:=h
  rfl
 obtain ⟨l,n,x,b,rfl,hl,hst,n1,n4,q⟩:=h
 refine ⟨_,n5 (D6 (i:=2) hG.nd rfl (B5 rfl) (B8 c1 hr rfl (b7 (pv 0) (b7 j8 d8))))
  (n5 (D6 (i:=3) hG.nd rfl (Z7 rfl) (B8 c1 hr rfl (b7 (pv 0) (b7 j8 d8))))
  (n5 (R0 (N6 ik (pv 2) j8 (M5 _)) (v5 (C7 (E6 K2 rfl B.tuple E7 (b7 (J9 (N:=["_law_kind","_law_kinds","_law_more"]) (ix:=[none,some 1,some 3]) (ifs:=[]) (tc:=Q2) rfl (K3 rfl B.range (b7 (pv 1) d8)) (fun s H ex=>aE (i:=0) (by decide +kernel) rfl (Z7 rfl) (.inl rfl)) (fun s H ex=>F9) (fun s H ex=>(E6 (Gi (K:=K) rfl) rfl B.tuple E7 (b7 (J9 (N:=["_law_one","_law_more","_law_kind"]) (ix:=[none,some 2,some 0]) (ifs:=[]) (tc:=Q2) rfl (K3 rfl B.range (b7 (pv 1) d8)) (fun s H ex=>aE (i:=0) (by decide +kernel) rfl (B5 rfl) (.inr rfl)) (fun s H ex=>F9) (fun s H ex=>A7 fJ (pv 1) (E6 cX rfl B.int jl (b7 (cN ik (pv 0) (pv 2) (M5 _)) d8))) rfl (by decide +kernel) (by rfl) (by rfl) (fun _=>rfl)) d8))) rfl (by decide +kernel) (by rfl) (by rfl) (fun _=>rfl)) d8)))) F6)
  (n5 (D6 (i:=4) hG.nd rfl (Z7 rfl) (E6 K2 rfl B.tuple E7 (b7 (J9 (N:=["_law_kind","_law_state_here"]) (ix:=[none,some 0]) (ifs:=[]) (tc:=Q2) rfl (K3 rfl B.range (b7 (pv 1) d8)) (fun s H ex=>aE (i:=0) (by decide +kernel) rfl (B5 rfl) (.inr rfl)) (fun s H ex=>F9) (fun s H ex=>B8 c1 hr rfl (b7 (pv 1) (b7 (G1 (ixLK (K:=K) rfl) (N1 (b7 j8 (b7 j8 (b7 j8 d8)))) (B8 c1 hr rfl (b7 (pv 1) (b7 j8 d8))) (fun _ _=>rfl)) d8))) rfl (by decide +kernel) (by rfl) (by rfl) (fun _=>rfl)) d8)))
  (n5 (R0 (N6 ik (pv 2) j8 (M5 _)) (v5 (C7 (A7 Ee (D0 (b7 (pv 4) d8)) (pv 1)))) F6)
  (n5 (R0 (N6 ik (pv 2) j8 (M5 _)) (n5 (ic (N:=["_law_kind","_law_state_here","_law_kinds"]) (ix:=[none,some 0,some 1]) (ifs:=[]) (tc:=Q2) (i:=5) rfl hG.nd rfl rfl (K3 rfl B.range (b7 (pv 1) d8)) (fun s H ex=>aE (i:=0) (by decide +kernel) rfl (B5 rfl) (.inr rfl)) (fun s H ex=>F9) (fun s H ex=>B8 c1 hr rfl (b7 (pv 1) (b7 (pv 2) d8))) rfl (by decide +kernel) (by rfl) (by rfl) (fun _=>rfl) (by rfl)) (v5 (C7 (E6 K2 rfl B.tuple E7 (b7 (J9 (N:=["_law_place","_law_row"]) (ix:=[none,some 4]) (ifs:=[]) (tc:=Q2) rfl (jV (pv 5)) (fun s H ex=>aE (i:=0) (by decide +kernel) rfl (B5 rfl) (.inr rfl)) (fun s H ex=>F9) (fun s H ex=>A7 cf (G0 lN (pv 1) (L5 (pv 0)) L6) (G0 lN (pv 1) L6 (L5 (pv 0)))) rfl (by decide +kernel) (by rfl) (by rfl) (fun _=>rfl)) d8))))) F6)
  (n5 (R0 (N6 ik (pv 2) j8 (M5 _)) (v5 (C7 (E6 K2 rfl B.tuple E7 (b7 (J9 (N:=["_law_kind","_law_kinds","_law_more"]) (ix:=[none,some 1,some 3]) (ifs:=[]) (tc:=Q2) rfl (K3 rfl B.range (b7 (pv 1) d8)) (fun s H ex=>aE (i:=0) (by decide +kernel) rfl (Z7 rfl) (.inl rfl)) (fun s H ex=>F9) (fun s H ex=>(E6 (Gi (K:=K) rfl) rfl B.tuple E7 (b7 (J9 (N:=["_law_one","_law_kind","_law_kinds","_law_more"]) (ix:=[none,some 0,some 1,some 2]) (ifs:=[]) (tc:=Q2) rfl (K3 rfl B.range (b7 (pv 1) d8)) (fun s H ex=>aE (i:=0) (by decide +kernel) rfl (B5 rfl) (.inr rfl)) (fun s H ex=>F9) (fun s H ex=>A7 fJ (pv 3) (E6 cX rfl B.int jl (b7 (cN ik (pv 0) (A7 fK (A7 P7 (pv 1) j8) (pv 2)) (M5 _)) d8))) rfl (by decide +kernel) (by rfl) (by rfl) (fun _=>rfl)) d8))) rfl (by decide +kernel) (by rfl) (by rfl) (fun _=>rfl)) d8)))) F6)
  (v5 (C7 (E6 K2 rfl B.tuple E7 (b7 (J9 (N:=["_law_kind","_law_kinds","_law_state_here"]) (ix:=[none,some 1,some 0]) (ifs:=[]) (tc:=Q2) rfl (K3 rfl B.range (b7 (pv 1) d8)) (fun s H ex=>aE (i:=0) (by decide +kernel) rfl (B5 rfl) (.inr rfl)) (fun s H ex=>F9) (fun s H ex=>(E6 (Gi (K:=K) rfl) rfl B.tuple E7 (b7 (J9 (N:=["_law_one","_law_state_here"]) (ix:=[none,some 2]) (ifs:=[]) (tc:=Q2) rfl (K3 rfl B.range (b7 (pv 1) d8)) (fun s H ex=>aE (i:=0) (by decide +kernel) rfl (B5 rfl) (.inr rfl)) (fun s H ex=>F9) (fun s H ex=>B8 c1 hr rfl (b7 (pv 1) (b7 j8 d8))) rfl (by decide +kernel) (by rfl) (by rfl) (fun _=>rfl)) d8))) rfl (by decide +kernel) (by rfl) (by rfl) (fun _=>rfl)) d8)))))))))),?_⟩
 have lo62:-(2 ^ 62)<=((n:Nat):Int):=by lia
 have hi62:((n:Nat):Int)<2 ^ 62:=by lia
 have s0:Y0 l b H H:=Y0.start hl hst
 have fin:∀(rs:List (List Int)) (ys:List V) (H3:Hp) (p ra:Addr),Y0 l b H H3->rs.length=n->(∀r∈rs,Mt.Dz n 5 r)->P3 l H3 (rs.map DI) ys->H3 p=none->t6 H3 p (.lst ys) ra=none->Q (.ref ra) (t6 (t6 H3 p (.lst ys)) ra (.tup ys)):=fun rs ys H3 p ra s3 h1 h2 h3 hp hra=>by
  have s4:Y0 l b H (t6 H3 p (.lst ys)):=s3.new hp
  exact q _ _ rs (s4.new hra) (Dt.tup (s4.ne hra).symm f6 (h3.kp ((Kp.new hp).trans (Kp.new hra)))) ⟨h1,h2⟩
 refine ⟨_,rfl,l,5,x,b,rfl,hl,hst,by decide,by decide,fun wy x1 hwy ok1=>?_⟩
 have s1:=s0.go ok1
 show fk _ _ _ _ (t6 H l (.lst [.int x1,.bl b]))
 generalize t6 H l (.lst [.int x1,.bl b])=H1 at s1
 obtain ⟨_,x2,hx2,Ad⟩:=id s1
 refine ⟨_,rfl,l,6,x2,b,rfl,hx2,Ad,by decide,by decide,fun mo x3 hmo ok3=>?_⟩
 have s2:=s1.go ok3
 show fk _ _ _ _ (t6 H1 l (.lst [.int x3,.bl b]))
 generalize t6 H1 l (.lst [.int x3,.bl b])=H2 at s2
 refine ⟨_,rfl,rfl,_,rfl,wU (fun _=>?_) (fun _=>?_)⟩
 ·refine ⟨_,rfl,(n:Int),rfl,lo62,hi62,?_⟩
  refine O4 (lo:=0) (n:=n) (sz (by lia)) (fun i ys H3=>Y0 l b H H3/\∃rs:List (List Int),rs.length=i/\(∀r∈rs,Mt.Dz n 5 r)/\P3 l H3 (rs.map DI) ys)
   ⟨s2,[],rfl,by simp,P3.nil _ _⟩ (fun i ys H3 h=>?_) rfl (fun i ys H3 hi h=>?_) (fun ys H3 h=>?_)
  ·obtain ⟨_,rs,hr1,_,hd⟩:=h
   rw[<- hd.len,b9];exact hr1
  ·obtain ⟨s3,rs,hr1,hr2,hd⟩:=h
   refine ⟨_,rfl,(n:Int),rfl,lo62,hi62,?_⟩
   refine O4 (lo:=0) (n:=n) (sz (by lia)) (fun j zs H4=>Y0 l b H H4/\Kp l H3 H4/\∃r:List Int,zs=r.map V.int/\r.length=j/\∀z∈r,0<=z/\z<=5)
    ⟨s3,Kp.refl _ _,[],rfl,rfl,by simp⟩ (fun j zs H4 h=>?_) rfl (fun j zs H4 hj h=>?_) (fun zs H4 h=>?_)
   ·obtain ⟨_,_,r,rfl,hr,_⟩:=h
    rw[b9];exact hr
   ·obtain ⟨s4,k4,r,rfl,hr,hz⟩:=h
    refine ⟨_,rfl,_,rfl,_,rfl,rfl,.inr ⟨_,rfl,_,_,rfl,rfl,.inl ⟨by lia,by lia⟩,?_⟩⟩
    refine ⟨s4,k4,r++[_],by rw[n9];rfl,by rw[t8,hr];rfl,fun z hz'=>?_⟩
    rcases List.mem_append.mp hz' with h|h
    ·exact hz z h
    ·rw[List.mem_singleton.mp h]
     split <;> lia
   ·obtain ⟨s4,k4,r,rfl,hr,hz⟩:=h
    intro p hp
    have s5:Y0 l b H (t6 H4 p (.lst (r.map V.int))):=s4.new hp
    refine ⟨p,_,rfl,.inl ⟨.of f6,fun t ht=>?_⟩⟩
    have kk:Kp l H3 (t6 (t6 H4 p (.lst (r.map V.int))) t (.tup (r.map V.int))):=(k4.trans (Kp.new hp)).trans (Kp.new ht)
    refine ⟨s5.new ht,rs++[r],by rw[t8,hr1];rfl,fun r' hr'=>?_,?_⟩
    ·rcases List.mem_append.mp hr' with h|h
     ·exact hr2 r' h
     ·rw[List.mem_singleton.mp h];exact ⟨hr,hz⟩
    ·rw[n9]
     exact (hd.kp kk).append (P3.cons (Dt.mkI (s5.ne ht).symm f6) (P3.nil _ _))
  ·obtain ⟨s3,rs,hr1,hr2,hd⟩:=h
   exact fun p hp=>⟨p,_,rfl,.inl ⟨.of f6,fun ra hra=>fin rs ys H3 p ra s3 hr1 hr2 hd hp hra⟩⟩
 refine ⟨_,rfl,(n:Int),rfl,lo62,hi62,?_⟩
 refine O4 (lo:=0) (n:=n) (sz (by lia)) (fun i ys H3=>Y0 l b H H3/\∃ns:List Int,ys=ns.map V.int/\ns.length=i/\∀z∈ns,0<=z/\z<=5)
  ⟨s2,[],rfl,rfl,by simp⟩ (fun i ys H3 h=>?_) rfl (fun i ys H3 hi h=>?_) (fun ys H3 h=>?_)
 ·obtain ⟨_,ns,rfl,hn,_⟩:=h
  rw[b9];exact hn
 ·obtain ⟨s3,ns,rfl,hn,hb⟩:=h
  refine ⟨_,rfl,(by show 3<=i7;decide),fun p5 hp5=>?_⟩
  have s5:Y0 l b H (t6 H3 p5 (.lst [.int 2,.int 3,.int 6])):=s3.new hp5
  have np5:p5≠l:=(s3.ne hp5).symm
  obtain ⟨_,x5,hx5,ok5⟩:=id s5
  refine ⟨_,rfl,l,3,x5,b,rfl,hx5,ok5,by decide,by decide,fun y x6 hy ok6=>?_⟩
  have s6:=s5.go ok6
  have k6:Kp l (t6 H3 p5 (.lst [.int 2,.int 3,.int 6])) (t6 (t6 H3 p5 (.lst [.int 2,.int 3,.int 6])) l (.lst [.int x6,.bl b])):=Kp.at
  have hp6:=k6 _ _ np5 f6
  obtain ⟨m,hm,m1,m2⟩:∃m:Int,([.int 2,.int 3,.int 6]:List V)[y]?=some (.int m)/\1<=m/\m<=6:=by
   have hy':y<3:=by lia
   match y,hy' with
   | 0,_=>exact ⟨2,rfl,by decide,by decide⟩
   | 1,_=>exact ⟨3,rfl,by decide,by decide⟩
   | 2,_=>exact ⟨6,rfl,by decide,by decide⟩
  obtain ⟨_,x7,hx7,ok7⟩:=id s6
  refine ⟨p5,_,_,_,rfl,rfl,.of hp6,C8 hm,l,m,x7,b,rfl,hx7,ok7,m1,by lia,fun y2 x8 hy2 ok8=>?_⟩
  refine ⟨s6.go ok8,ns++[(y2:Int)],by rw[n9];rfl,by rw[t8,hn];rfl,fun z hz=>?_⟩
  rcases List.mem_append.mp hz with h|h
  ·exact hb z h
  ·rw[List.mem_singleton.mp h];lia
 obtain ⟨s3,ns,rfl,hn,hb⟩:=h
 intro p3 hp3
 refine ⟨p3,_,rfl,.inl ⟨.of f6,fun rw hrw=>?_⟩⟩
 have s4:Y0 l b H (t6 H3 p3 (.lst (ns.map V.int))):=s3.new hp3
 have s5:=s4.new (o:=.tup (ns.map V.int)) hrw
 have hr5:t6 (t6 H3 p3 (.lst (ns.map V.int))) rw (.tup (ns.map V.int)) rw=some (.tup (ns.map V.int)):=f6
 show fk _ _ _ _ (t6 (t6 H3 p3 (.lst (ns.map V.int))) rw (.tup (ns.map V.int)))
 generalize t6 (t6 H3 p3 (.lst (ns.map V.int))) rw (.tup (ns.map V.int))=H5 at s5 hr5
 have nrw:rw≠l:=s5.neL hr5
 have hrow:Mt.Dz n 5 ns:=⟨hn,hb⟩
 refine ⟨_,rfl,rfl,_,rfl,wU (fun _=>?_) (fun _=>?_)⟩
 ·refine ⟨_,rfl,(by show 1<=i7;decide),fun pa hpa=>⟨_,rfl,pa,.ref rw,n,rfl,rfl,f6,n1,n4,fun pb Hb gb hpb=>?_⟩⟩
  have g:=(j7.new (o:=.tup [.ref rw]) hpa).trans gb
  have s6:=s5.same g
  refine q _ _ (m6 n ns) s6 (Dt.tup (s6.neL hpb) hpb ?_) ⟨J7,fun r hr=>by rw[aF hr];exact hrow⟩
  rw[X1]
  exact yG (Dt.mkI nrw (g _ _ hr5)) n
 refine ⟨_,rfl,rfl,_,rfl,wU (fun _=>?_) (fun _=>?_)⟩
 ·refine ⟨_,rfl,(n:Int),rfl,lo62,hi62,?_⟩
  refine O4 (lo:=0) (n:=n) (sz (by lia)) (fun i ys H6=>Y0 l b H H6/\Kp l H5 H6/\∃ks:List Nat,ys=ks.map (fun (k:Nat)=>V.int k)/\ks.length=i/\∀z∈ks,z<n)
   ⟨s5,Kp.refl _ _,[],rfl,rfl,by simp⟩ (fun i ys H6 h=>?_) rfl (fun i ys H6 hi h=>?_) (fun ys H6 h=>?_)
  ·obtain ⟨_,_,ks,rfl,hk,_⟩:=h
   rw[b9];exact hk
  ·obtain ⟨s6,k6,ks,rfl,hk,hlt⟩:=h
   obtain ⟨_,x6,hx6,ok6⟩:=id s6
   refine ⟨_,rfl,_,rfl,l,n,x6,b,rfl,hx6,ok6,by lia,by lia,fun y x7 hy ok7=>?_⟩
   refine ⟨s6.go ok7,k6.trans Kp.at,ks++[y],by rw[n9];rfl,by rw[t8,hk];rfl,fun z hz=>?_⟩
   rcases List.mem_append.mp hz with h|h
   ·exact hlt z h
   ·rw[List.mem_singleton.mp h];lia
  obtain ⟨s6,k6,ks,rfl,hk,hlt⟩:=h
  intro pf hpf
  have s7:=s6.new (o:=.lst (ks.map (fun (k:Nat)=>V.int k))) hpf
  have npf:pf≠l:=(s6.ne hpf).symm
  have hf7:t6 H6 pf (.lst (ks.map (fun (k:Nat)=>V.int k))) pf=some (.lst (ks.map (fun (k:Nat)=>V.int k))):=f6
  have hr7:t6 H6 pf (.lst (ks.map (fun (k:Nat)=>V.int k))) rw=some (.tup (ns.map V.int)):=j7.new hpf _ _ (k6 _ _ nrw hr5)
  generalize t6 H6 pf (.lst (ks.map (fun (k:Nat)=>V.int k)))=H7 at s7 hf7 hr7
  refine ⟨_,rfl,pf,rfl,⟨_,.of hf7⟩,vd (K:=K) (a:=pf) (xs:=ks.map (fun (k:Nat)=>V.int k)) (by rw[b9,hk];exact sz (by lia)) (fun i ys H8=>j7 H7 H8/\i<=n/\∃rs:List (List Int),rs.length=i/\(∀r∈rs,Mt.Dz n 5 r)/\P3 l H8 (rs.map DI) ys)
   ⟨j7.refl _,u9 _,[],rfl,by simp,P3.nil _ _⟩ (fun i ys H8 h=>?_) (fun i ys H8 _ h=>.of (h.1 _ _ hf7)) rfl (fun i ys H8 v hv h=>?_) (fun ys H8 h=>?_)⟩
  ·obtain ⟨_,_,rs,hr1,_,hd⟩:=h
   rw[<- hd.len,b9];exact hr1
  ·obtain ⟨g8,hin,rs,hr1,hr2,hd⟩:=h
   rw[n8] at hv
   obtain ⟨k,hk',ev⟩:=Option.map_eq_some_iff.mp hv
   subst ev
   have hik:=(List.getElem?_eq_some_iff.mp hk').1
   have hkn:=hlt k (B0 hk')
   have hr8:=g8 _ _ hr7
   have hkl:k<=(ns.map V.int).length:=by rw[b9];lia
   have ea:gC (ns.map V.int) (some (k:Int)) none=(ns.drop k).map V.int:=by rw[ou hkl,vy]
   have eb:gC (ns.map V.int) none (some (k:Int))=(ns.take k).map V.int:=by rw[oq hkl,vw]
   refine ⟨_,rfl,_,rfl,_,rfl,rw,_,rfl,hr8,fun p1 H9 g9 hp1=>⟨_,rfl,_,rfl,_,rfl,rw,_,rfl,g9 _ _ hr8,fun p2 HA gA hp2=>?_⟩⟩
   rw[ea] at hp1
   rw[eb] at hp2
   refine ⟨p1,p2,_,_,rfl,rfl,gA _ _ hp1,hp2,(by rw[b9,b9,cG,A4];lia),fun p HB gB hpB=>?_⟩
   have gAll:=(g9.trans gA).trans gB
   have gTot:=g8.trans gAll
   have sB:=s7.same gTot
   refine ⟨gTot,by lia,rs++[ns.drop k++ns.take k],by rw[t8,hr1];rfl,fun r' hr'=>?_,?_⟩
   ·rcases List.mem_append.mp hr' with h|h
    ·exact hr2 r' h
    ·rw[List.mem_singleton.mp h]
     refine ⟨by rw[t8,cG,A4];lia,fun z hz=>?_⟩
     have hz':z∈ns:=by
      rcases List.mem_append.mp hz with h|h
      ·exact Aa h
      ·exact ae h
     exact hb z hz'
   ·rw[n9]
    exact (hd.kp (gAll.kp l)).append (P3.cons (Dt.mkI (sB.neL hpB) (by rw[hpB,n9])) (P3.nil _ _))
  ·obtain ⟨g8,_,rs,hr1,hr2,hd⟩:=h
   rw[b9,hk] at hr1
   exact fun p hp=>⟨p,_,rfl,.inl ⟨.of f6,fun ra hra=>fin rs ys H8 p ra (s7.same g8) hr1 hr2 hd hp hra⟩⟩
 refine ⟨_,rfl,rfl,_,rfl,wU (fun _=>?_) (fun _=>?_)⟩
 ·refine ⟨_,rfl,(n:Int),rfl,lo62,hi62,?_⟩
  refine O4 (lo:=0) (n:=n) (sz (by lia)) (fun i ys H3=>Y0 l b H H3/\∃rs:List (List Int),rs.length=i/\(∀r∈rs,Mt.Dz n 5 r)/\P3 l H3 (rs.map DI) ys)
   ⟨s5,[],rfl,by simp,P3.nil _ _⟩ (fun i ys H3 h=>?_) rfl (fun i ys H3 hi h=>?_) (fun ys H3 h=>?_)
  ·obtain ⟨_,rs,hr1,_,hd⟩:=h
   rw[<- hd.len,b9];exact hr1
  ·obtain ⟨s3,rs,hr1,hr2,hd⟩:=h
   refine ⟨_,rfl,(n:Int),rfl,lo62,hi62,?_⟩
   refine O4 (lo:=0) (n:=n) (sz (by lia)) (fun j zs H4=>Y0 l b H H4/\Kp l H3 H4/\∃r:List Int,zs=r.map V.int/\r.length=j/\∀z∈r,0<=z/\z<=5)
    ⟨s3,Kp.refl _ _,[],rfl,rfl,by simp⟩ (fun j zs H4 h=>?_) rfl (fun j zs H4 hj h=>?_) (fun zs H4 h=>?_)
   ·obtain ⟨_,_,r,rfl,hr,_⟩:=h
    rw[b9];exact hr
   ·obtain ⟨s4,k4,r,rfl,hr,hz⟩:=h
    refine ⟨_,rfl,_,rfl,_,rfl,_,_,rfl,rfl,_,rfl,_,_,rfl,rfl,(by lia),rfl,.inr ⟨_,rfl,_,_,rfl,rfl,.inl ⟨by lia,by lia⟩,?_⟩⟩
    refine ⟨s4,k4,r++[_],by rw[n9];rfl,by rw[t8,hr];rfl,fun z hz'=>?_⟩
    rcases List.mem_append.mp hz' with h|h
    ·exact hz z h
    ·rw[List.mem_singleton.mp h]
     split <;> lia
   ·obtain ⟨s4,k4,r,rfl,hr,hz⟩:=h
    intro p hp
    have s5:Y0 l b H (t6 H4 p (.lst (r.map V.int))):=s4.new hp
    refine ⟨p,_,rfl,.inl ⟨.of f6,fun t ht=>?_⟩⟩
    have kk:Kp l H3 (t6 (t6 H4 p (.lst (r.map V.int))) t (.tup (r.map V.int))):=(k4.trans (Kp.new hp)).trans (Kp.new ht)
    refine ⟨s5.new ht,rs++[r],by rw[t8,hr1];rfl,fun r' hr'=>?_,?_⟩
    ·rcases List.mem_append.mp hr' with h|h
     ·exact hr2 r' h
     ·rw[List.mem_singleton.mp h];exact ⟨hr,hz⟩
    ·rw[n9]
     exact (hd.kp kk).append (P3.cons (Dt.mkI (s5.ne ht).symm f6) (P3.nil _ _))
  ·obtain ⟨s3,rs,hr1,hr2,hd⟩:=h
   exact fun p hp=>⟨p,_,rfl,.inl ⟨.of f6,fun ra hra=>fin rs ys H3 p ra s3 hr1 hr2 hd hp hra⟩⟩
 refine ⟨_,rfl,(n:Int),rfl,lo62,hi62,?_⟩
 refine O4 (lo:=0) (n:=n) (sz (by lia)) (fun i ys H3=>Y0 l b H H3/\∃rs:List (List Int),rs.length=i/\(∀r∈rs,Mt.Dz n 5 r)/\P3 l H3 (rs.map DI) ys)
  ⟨s5,[],rfl,by simp,P3.nil _ _⟩ (fun i ys H3 h=>?_) rfl (fun i ys H3 hi h=>?_) (fun ys H3 h=>?_)
 ·obtain ⟨_,rs,hr1,_,hd⟩:=h
  rw[<- hd.len,b9];exact hr1
 ·obtain ⟨s3,rs,hr1,hr2,hd⟩:=h
  refine ⟨_,rfl,(n:Int),rfl,lo62,hi62,?_⟩
  refine O4 (lo:=0) (n:=n) (sz (by lia)) (fun j zs H4=>Y0 l b H H4/\Kp l H3 H4/\∃r:List Int,zs=r.map V.int/\r.length=j/\∀z∈r,0<=z/\z<=5)
   ⟨s3,Kp.refl _ _,[],rfl,rfl,by simp⟩ (fun j zs H4 h=>?_) rfl (fun j zs H4 hj h=>?_) (fun zs H4 h=>?_)
  ·obtain ⟨_,_,r,rfl,hr,_⟩:=h
   rw[b9];exact hr
  ·obtain ⟨s4,k4,r,rfl,hr,hz⟩:=h
   obtain ⟨_,x5,hx5,ok5⟩:=id s4
   refine ⟨_,rfl,l,6,x5,b,rfl,hx5,ok5,by decide,by decide,fun y x6 hy ok6=>?_⟩
   refine ⟨s4.go ok6,k4.trans Kp.at,r++[(y:Int)],by rw[n9];rfl,by rw[t8,hr];rfl,fun z hz'=>?_⟩
   rcases List.mem_append.mp hz' with h|h
   ·exact hz z h
   ·rw[List.mem_singleton.mp h];lia
  ·obtain ⟨s4,k4,r,rfl,hr,hz⟩:=h
   intro p hp
   have s5:Y0 l b H (t6 H4 p (.lst (r.map V.int))):=s4.new hp
   refine ⟨p,_,rfl,.inl ⟨.of f6,fun t ht=>?_⟩⟩
   have kk:Kp l H3 (t6 (t6 H4 p (.lst (r.map V.int))) t (.tup (r.map V.int))):=(k4.trans (Kp.new hp)).trans (Kp.new ht)
   refine ⟨s5.new ht,rs++[r],by rw[t8,hr1];rfl,fun r' hr'=>?_,?_⟩
   ·rcases List.mem_append.mp hr' with h|h
    ·exact hr2 r' h
    ·rw[List.mem_singleton.mp h];exact ⟨hr,hz⟩
   ·rw[n9]
    exact (hd.kp kk).append (P3.cons (Dt.mkI (s5.ne ht).symm f6) (P3.nil _ _))
 ·obtain ⟨s3,rs,hr1,hr2,hd⟩:=h
  exact fun p hp=>⟨p,_,rfl,.inl ⟨.of f6,fun ra hra=>fin rs ys H3 p ra s3 hr1 hr2 hd hp hra⟩⟩
end
noncomputable def Ad (d:A2):Prop:=aN d/\∀ds,d=.tuple ds->∀r∈ds,aN r
noncomputable def Da (l:Addr) (H:Hp) (v:V):Prop:=∃d,Dt l H d v
noncomputable def Sh (l:Addr) (H:Hp) (v:V):Prop:=∃d,Dt l H d v/\aN d
noncomputable def Tg (l:Addr) (H:Hp) (v:V):Prop:=∃d,Dt l H d v/\Ad d
theorem Da.kp {l:Addr}{H H':Hp}{v:V} (h:Da l H v) (k:Kp l H H'):Da l H' v:=let ⟨d,e⟩:=h;⟨d,e.kp k⟩
theorem Sh.kp {l:Addr}{H H':Hp}{v:V} (h:Sh l H v) (k:Kp l H H'):Sh l H' v:=let ⟨d,e,s⟩:=h;⟨d,e.kp k,s⟩
theorem Tg.kp {l:Addr}{H H':Hp}{v:V} (h:Tg l H v) (k:Kp l H H'):Tg l H' v:=let ⟨d,e,s⟩:=h;⟨d,e.kp k,s⟩
theorem Sh.da (h:Sh l H v):Da l H v:=let ⟨d,e,_⟩:=h;⟨d,e⟩
theorem Tg.sh (h:Tg l H v):Sh l H v:=let ⟨d,e,s⟩:=h;⟨d,e,s.1⟩
theorem iL (h:∀ds,d≠.tuple ds):Ad d:=⟨fun ds e=>absurd e (h ds),fun ds e=>absurd e (h ds)⟩
theorem Tg.int (l:Addr) (H:Hp) (i:Int):Tg l H (.int i):=⟨_,Dt.int l H i,iL fun ds e=>by cases e⟩
theorem Tg.bl (l:Addr) (H:Hp) (b:Bool):Tg l H (.bl b):=⟨_,Dt.bl l H b,iL fun ds e=>by cases e⟩
theorem Tg.non (l:Addr) (H:Hp):Tg l H .non:=⟨_,Dt.non l H,iL fun ds e=>by cases e⟩
theorem Tg.str (l:Addr) (H:Hp) (x:Str):Tg l H (.str x):=⟨_,Dt.str l H x,iL fun ds e=>by cases e⟩
theorem wY {l:Addr}{H:Hp}:∀{xs:List V},(∀x∈xs,Da l H x)->∃ds,P3 l H ds xs
 | [],_=>⟨[],P3.nil _ _⟩
 | x::xs,h=>by
  obtain ⟨d,hd⟩:=h x i4
  obtain ⟨ds,hds⟩:=wY (xs:=xs) fun y hy=>h y (f7 _ hy)
  exact ⟨d::ds,P3.cons hd hds⟩
theorem Cz {l:Addr}{H:Hp}:∀{xs:List V},(∀x∈xs,Sh l H x)->∃ds,P3 l H ds xs/\∀d∈ds,aN d
 | [],_=>⟨[],P3.nil _ _,by simp⟩
 | x::xs,h=>by
  obtain ⟨d,hd,hs⟩:=h x i4
  obtain ⟨ds,hds,hss⟩:=Cz (xs:=xs) fun y hy=>h y (f7 _ hy)
  refine ⟨d::ds,P3.cons hd hds,fun e he=>?_⟩
  rcases List.mem_cons.mp he with z|z
  ·subst z;exact hs
  ·exact hss e z
theorem Sh.tup {l p:Addr}{H:Hp}{xs:List V} (hp:H p=some (.tup xs)) (ne:p≠l) (hl:xs.length<=1000) (h:∀x∈xs,Da l H x):Sh l H (.ref p):=by
 obtain ⟨ds,hds⟩:=wY h
 refine ⟨_,Dt.tup ne hp hds,fun es e=>?_⟩
 injection e with e
 rw[<- e,hds.len];exact hl
theorem Tg.tup {l p:Addr}{H:Hp}{xs:List V} (hp:H p=some (.tup xs)) (ne:p≠l) (hl:xs.length<=1000) (h:∀x∈xs,Sh l H x):Tg l H (.ref p):=by
 obtain ⟨ds,hds,hss⟩:=Cz h
 refine ⟨_,Dt.tup ne hp hds,fun es e=>?_,fun es e r hr=>?_⟩
 ·injection e with e
  rw[<- e,hds.len];exact hl
 ·injection e with e
  rw[<- e] at hr;exact hss r hr
theorem Tg.lst {l p:Addr}{H:Hp}{xs:List V} (hp:H p=some (.lst xs)) (ne:p≠l) (h:∀x∈xs,Da l H x):Tg l H (.ref p):=by
 obtain ⟨ds,hds⟩:=wY h
 exact ⟨_,Dt.lst ne hp hds,iL fun ds e=>by cases e⟩
theorem Tg.dct {p:Addr}{ks:List (V0 × V)} (hp:H p=some (.dK ks)) (ne:p≠l):Tg l H (.ref p):=
 ⟨.dict [],by unfold Dt;exact ⟨p,ks,rfl,ne,hp⟩,iL fun ds e=>by cases e⟩
noncomputable def W9 (Pr:Hp->V->Prop) (m:Nat) (te:TE) (σ:L2.St) (H:Hp):Prop:=∀Q:VK,(∀p H' xs,j7 H H'->H' p=some (.tup xs)->(∀x∈xs,Pr H' x)->xs.length<=m->Q (.ref p) H')->te σ H Q
section
variable {Pr:Hp->V->Prop}{m m1 m2:Nat}{ta tb te:TE}{σ:L2.St}{H:Hp}
theorem W9.cat (h1:W9 Pr m1 ta σ H) (h2:∀H',j7 H H'->W9 Pr m2 tb σ H') (mo:∀H H' v,j7 H H'->Pr H v->Pr H' v) (hm:m1+m2<=1000):W9 Pr (m1+m2) (fe W4 ta tb) σ H:=by
 intro Q q
 refine h1 _ fun p1 H1 xs g1 hp1 e1 l1=>h2 H1 g1 _ fun p2 H2 ys g2 hp2 e2 l2=>?_
 refine ⟨p1,p2,xs,ys,rfl,rfl,g2 _ _ hp1,hp2,by lia,fun p H' g hp=>q p H' _ ((g1.trans g2).trans g) hp (fun x hx=>?_) (by rw[t8];lia)⟩
 rcases List.mem_append.mp hx with z|z
 ·exact mo _ _ _ (g2.trans g) (e1 x z)
 ·exact mo _ _ _ g (e2 x z)
variable {xs:List V}
theorem BW {lo hi:Option Int}{x:V} (h:x∈gC xs lo hi):x∈xs:=Aa (ae h)
variable {i:Nat}
theorem W9.sl {a:Addr}{tl th:TO} (hi:σ[i]?=some (some (.ref a))) (ha:H a=some (.tup xs)) (he:∀x∈xs,Pr H x) (mo:∀H H' v,j7 H H'->Pr H v->Pr H' v) (hm:xs.length<=m)
  (hl:∃o,∀R:Option Int->Hp->Prop,R o H->tl σ H R) (hh:∃o,∀R:Option Int->Hp->Prop,R o H->th σ H R):W9 Pr m (tj fE (O9 i) tl th) σ H:=by
 intro Q q
 obtain ⟨o1,h1⟩:=hl
 obtain ⟨o2,h2⟩:=hh
 refine ⟨_,hi,h1 _ (h2 _ ⟨a,xs,rfl,ha,fun p H' g hp=>q p H' _ g hp (fun x hx=>mo _ _ _ g (he x (BW hx))) (m8 (U9 xs o1 o2) hm)⟩)⟩
theorem W9.one {v:V} (hi:σ[i]?=some (some v)) (hv:Pr H v) (mo:∀H H' v,j7 H H'->Pr H v->Pr H' v):W9 Pr 1 (pA (bV (O9 i) jQ)) σ H:=by
 intro Q q
 refine ⟨_,hi,by show 1<=i7;decide,fun p hp=>q p _ [v] (j7.new hp) f6 (fun x hx=>?_) (i9 _)⟩
 rw[List.mem_singleton.mp hx]
 exact mo _ _ _ (j7.new hp) hv
theorem W9.var {a:Addr}(hi:σ[i]?=some (some (.ref a))) (ha:H a=some (.tup xs)) (he:∀x∈xs,Pr H x) (hm:xs.length<=m):W9 Pr m (O9 i) σ H :=
 fun Q q=>⟨_,hi,q a H xs (j7.refl H) ha he hm⟩
end
variable {σ:L2.St}
theorem aA :∃o,∀R:Option Int->Hp->Prop,R o H->R7 σ H R:=⟨none,fun R r=>r⟩
theorem bD {i:Nat}{k:Int} (h:σ[i]?=some (some (.int k))):∃o,∀R:Option Int->Hp->Prop,R o H->aL (O9 i) σ H R:=⟨some k,fun R r=>⟨_,h,k,rfl,r⟩⟩
theorem fG {i:Nat}{k:Int} (h:σ[i]?=some (some (.int k))):∃o,∀R:Option Int->Hp->Prop,R o H->aL (fe (tZ fun i j=>.int (i+j)) (O9 i) (tC (.int 1))) σ H R:=⟨some (k+1),fun R r=>⟨_,h,k,1,rfl,rfl,k+1,rfl,r⟩⟩
section
variable {P:j9}{w:t9}{K:m9}{mg:Str->Option d6}{base:Heap}{f:Addr}{fd:C4}
theorem GO:∀y:Nat,y<12->∃k:Nat,([.int 0,.int 0,.int 0,.int 0,.int 1,.int 2,.int 3,.int 4,.int 5,.int 6,.int 7,.int 8]:List V)[y]?=some (.int k)/\k<9
 | 0,_=>⟨0,rfl,by decide⟩
 | 1,_=>⟨0,rfl,by decide⟩
 | 2,_=>⟨0,rfl,by decide⟩
 | 3,_=>⟨0,rfl,by decide⟩
 | 4,_=>⟨1,rfl,by decide⟩
 | 5,_=>⟨2,rfl,by decide⟩
 | 6,_=>⟨3,rfl,by decide⟩
 | 7,_=>⟨4,rfl,by decide⟩
 | 8,_=>⟨5,rfl,by decide⟩
 | 9,_=>⟨6,rfl,by decide⟩
 | 10,_=>⟨7,rfl,by decide⟩
 | 11,_=>⟨8,rfl,by decide⟩
noncomputable def AJ:Sp:=fun vs H Q _=>∃(l ua:Addr) (x:Int) (b:Bool) (ns:List Int),vs=[.ref l,.ref ua]/\H l=some (.lst [.int x,.bl b])/\lF x b/\H ua=some (.tup (ns.map V.int))/\1<=ns.length/\ns.length<=4 /\
 ∀(v:V) (H':Hp),Y0 l b H H'->Tg l H' v->Q v H'
noncomputable abbrev GG:Stmt:=eI 54
theorem tV:C3 ["_law_state_here","_law_urn","_law_at","_law_odd_here","_law_some"] ["_law_state_here","_law_urn"] (v9 GG):=⟨rfl,rfl,rfl,by decide +kernel,rfl,by decide +kernel,by decide +kernel⟩
theorem JN (F:aY K "_law_bent_urn" "_law_bent_urn" GG f fd) (B:Bt mg) (c1:S2 P w K mg base 1 "_law_take" ["_law_state_here","_law_many"] aM):M0 P w K mg base cH 2 f fd ["_law_state_here","_law_urn"] AJ:=by
 refine F.ok tV (fun vs H Q E h=>?_) (fun cdv A outer s H vs Q E hr h=>?_)
 ·obtain ⟨l,ua,x,b,ns,rfl,_⟩:=h
  rfl
 obtain ⟨l,ua,x,b,ns,rfl,hl,hst,hua,n1,n4,q⟩:=h
 refine ⟨_,n5 (D6 (i:=2) tV.nd rfl (B5 rfl) (B8 c1 hr rfl (b7 (pv 0) (b7 (t7 B7 rfl B.len A5 (b7 (pv 1) d8)) d8))))
  (n5 (D6 (i:=3) tV.nd rfl (B5 rfl) (@G1 _ _ _ _ _ _ _ O7 (@N1 _ _ _ _ (nU 7 rfl (b7 (D0 (b7 j8 d8)) (b7 (N1 (b7 j8 d8)) (b7 (A7 lp j8 j8) (b7 (A7 P7 (G1 N2 (pv 1) (pv 2) (fun _ _=>rfl)) j8) d8)))))) (B8 c1 hr rfl (b7 (pv 0) (b7 j8 d8))) (fun _ _=>rfl)))
  (n5 (D6 (i:=4) tV.nd rfl (B5 rfl) (N1
   (b7 (A7 cf (A7 cf (G0 lN (pv 1) L6 (L5 (pv 2))) (D0 (b7 (pv 3) d8))) (G0 lN (pv 1) (L5 (A7 P7 (pv 2) j8)) L6))
   (b7 (A7 cf (A7 cf (G0 lN (pv 1) L6 (L5 (pv 2))) (D0 (b7 (pv 3) d8))) (G0 lN (pv 1) (L5 (pv 2)) L6))
   (b7 (A7 cf (G0 lN (pv 1) L6 (L5 (pv 2))) (G0 lN (pv 1) (L5 (A7 P7 (pv 2) j8)) L6))
   (b7 (E6 cQ rfl B.list fR (b7 (pv 1) d8)) d8))))))
  (n5 (D6 (i:=4) tV.nd rfl (B5 rfl) (A7 lr (pv 4) (N1
   (b7 (A7 Ee (D0 (b7 j8 d8)) (t7 B7 rfl B.len A5 (b7 (pv 1) d8)))
   (b7 fI (b7 (D0 (b7 (pv 1) d8)) (b7 (A7 Ep (pv 1) j8) (b7 (pv 3) d8))))))))
  (v5 (C7 (rZ rfl (pv 4) (B8 c1 hr rfl (b7 (pv 0) (b7 j8 d8))) (fun _ _=>rfl))))))),?_⟩
 have s0:Y0 l b H H:=Y0.start hl hst
 have nua:ua≠l:=HJ hl hua
 refine ⟨_,rfl,_,rfl,ua,_,rfl,.inr (.of hua),l,_,x,b,rfl,hl,hst,?_,?_,fun at0 x1 hat ok1=>?_⟩
 ·rw[b9];lia
 ·rw[b9];lia
 rw[b9] at hat
 have s1:=s0.go ok1
 have k1:Kp l H (t6 H l (.lst [.int x1,.bl b])):=Kp.at
 show fk _ _ _ _ (t6 H l (.lst [.int x1,.bl b]))
 generalize t6 H l (.lst [.int x1,.bl b])=H1 at s1 k1
 have hua1:=k1 _ _ nua hua
 refine ⟨(by show 1<=i7;decide),fun pt hpt=>?_⟩
 have s2:Y0 l b H (t6 H1 pt (.tup [.int 1])):=s1.new hpt
 have g2:j7 H1 (t6 H1 pt (.tup [.int 1])):=j7.new hpt
 have hpt2:t6 H1 pt (.tup [.int 1]) pt=some (.tup [.int 1]):=f6
 dsimp only
 generalize t6 H1 pt (.tup [.int 1])=H2 at s2 g2 hpt2
 have npt:pt≠l:=s2.neL hpt2
 refine ⟨(by show 1<=i7;decide),fun pw hpw=>?_⟩
 have s2':Y0 l b H (t6 H2 pw (.lst [.int 1])):=s2.new hpw
 have g2':j7 H2 (t6 H2 pw (.lst [.int 1])):=j7.new hpw
 have hpw2:t6 H2 pw (.lst [.int 1]) pw=some (.lst [.int 1]):=f6
 have npw:pw≠l:=(s2.ne hpw).symm
 dsimp only
 generalize t6 H2 pw (.lst [.int 1])=H2' at s2' g2' hpw2
 have hua2:=(g2.trans g2') _ _ hua1
 refine ⟨_,_,rfl,rfl,⟨by decide,by decide,by decide⟩,_,rfl,_,rfl,ua,_,_,_,rfl,rfl,.of hua2,bO (by lia),_,_,rfl,rfl,(by show 11<=i7;decide),fun po hpo=>?_⟩
 have s3:=s2'.new (o:=.lst ([.int 21,.int (-1),.int 20,.int 0,.bl true,.non,.str "1"]++[.ref pt,.ref pw,.int (10 ^ 29),.int (ns.getD at0 0+1)])) hpo
 have npo:po≠l:=(s2'.ne hpo).symm
 have g3:j7 H2' (t6 H2' po (.lst ([.int 21,.int (-1),.int 20,.int 0,.bl true,.non,.str "1"]++[.ref pt,.ref pw,.int (10 ^ 29),.int (ns.getD at0 0+1)]))):=j7.new hpo
 have hpo3:t6 H2' po (.lst ([.int 21,.int (-1),.int 20,.int 0,.bl true,.non,.str "1"]++[.ref pt,.ref pw,.int (10 ^ 29),.int (ns.getD at0 0+1)])) po=some (.lst ([.int 21,.int (-1),.int 20,.int 0,.bl true,.non,.str "1"]++[.ref pt,.ref pw,.int (10 ^ 29),.int (ns.getD at0 0+1)])):=f6
 show Jl aM _ _ (t6 H2' po (.lst ([.int 21,.int (-1),.int 20,.int 0,.bl true,.non,.str "1"]++[.ref pt,.ref pw,.int (10 ^ 29),.int (ns.getD at0 0+1)]))) _
 generalize hX:(([.int 21,.int (-1),.int 20,.int 0,.bl true,.non,.str "1"]++[.ref pt,.ref pw,.int (10 ^ 29),.int (ns.getD at0 0+1)]):List V)=X11 at s3 g3 hpo3
 have hX11:X11.length=11/\∀(H':Hp),H' pt=some (.tup [.int 1])->H' pw=some (.lst [.int 1])->∀y∈X11,Tg l H' y:=by
  rw[<- hX]
  refine ⟨rfl,fun H' h h' y hy=>?_⟩
  simp only[H0,dz,C1,C0,or_false] at hy
  rcases hy with e|e|e|e|e|e|e|e|e|e|e
  ·rw[e];exact Tg.int _ _ _
  ·rw[e];exact Tg.int _ _ _
  ·rw[e];exact Tg.int _ _ _
  ·rw[e];exact Tg.int _ _ _
  ·rw[e];exact Tg.bl _ _ _
  ·rw[e];exact Tg.non _ _
  ·rw[e];exact Tg.str _ _ _
  ·rw[e];exact Tg.tup h npt (by decide) fun z hz=>by rw[List.mem_singleton.mp hz];exact (Tg.int _ _ _).sh
  ·rw[e];exact Tg.lst h' npw fun z hz=>by rw[List.mem_singleton.mp hz];exact (Tg.int _ _ _).sh.da
  ·rw[e];exact Tg.int _ _ _
  ·rw[e];exact Tg.int _ _ _
 clear hX
 have hua3:=g3 _ _ hua2
 have hpt3:=(g2'.trans g3) _ _ hpt2
 have hpw3:=g3 _ _ hpw2
 generalize t6 H2' po (.lst X11)=H3 at s3 g3 hpo3 hua3 hpt3 hpw3
 obtain ⟨_,x3,hx3,ok3⟩:=id s3
 refine ⟨_,rfl,l,11,x3,b,rfl,hx3,ok3,by decide,by decide,fun y x4 hy ok4=>?_⟩
 have s4:=s3.go ok4
 have k4:Kp l H3 (t6 H3 l (.lst [.int x4,.bl b])):=Kp.at
 dsimp only
 generalize t6 H3 l (.lst [.int x4,.bl b])=H4 at s4 k4
 have hua4:=k4 _ _ nua hua3
 have hpt4:=k4 _ _ npt hpt3
 have hpw4:=k4 _ _ npw hpw3
 have hpo4:=k4 _ _ npo hpo3
 have hy11:y<X11.length:=by rw[hX11.1];lia
 refine ⟨po,_,_,X11[y],rfl,rfl,.of hpo4,C8 (d9 hy11),?_⟩
 have hod:Tg l H4 X11[y]:=hX11.2 H4 hpt4 hpw4 _ (F7 hy11)
 generalize X11[y]=od at hod
 clear hX11 hy11 hpo4 hpo3 hpt4 hpt3 hpt2 hpw4 hpw3 hpw2
 have mo:∀(H H':Hp) (v:V),j7 H H'->Sh l H v->Sh l H' v:=fun H H' v g h=>h.kp (g.kp l)
 have hxs:∀H',∀z∈ns.map V.int,Sh l H' z:=fun H' z hz=>by
  obtain ⟨i,_,e⟩:=List.mem_map.mp hz
  rw[<- e];exact (Tg.int _ _ _).sh
 have hln:(ns.map V.int).length<=4:=by rw[b9];exact n4
 have U:∀H',j7 H4 H'->H' ua=some (.tup (ns.map V.int)):=fun H' g=>g _ _ hua4
 have T1:∀H',j7 H4 H'->W9 (Sh l) (4+1+4) (fe W4 (fe W4 (tj fE (O9 1) R7 (aL (O9 2))) (pA (bV (O9 3) jQ))) (tj fE (O9 1) (aL (fe (tZ fun i j=>.int (i+j)) (O9 2) (tC (.int 1)))) R7)) [some (.ref l),some (.ref ua),some (.int at0),some od,none] H':=fun H' g =>
  W9.cat (W9.cat (W9.sl rfl (U _ g) (hxs _) mo hln aA (bD rfl)) (fun H'' g'=>W9.one rfl (hod.sh.kp ((g.trans g').kp l)) mo) mo (by decide)) (fun H'' g'=>W9.sl rfl (U _ (g.trans g')) (hxs _) mo hln (fG rfl) aA) mo (by decide)
 have T2:∀H',j7 H4 H'->W9 (Sh l) (4+1+4) (fe W4 (fe W4 (tj fE (O9 1) R7 (aL (O9 2))) (pA (bV (O9 3) jQ))) (tj fE (O9 1) (aL (O9 2)) R7)) [some (.ref l),some (.ref ua),some (.int at0),some od,none] H':=fun H' g =>
  W9.cat (W9.cat (W9.sl rfl (U _ g) (hxs _) mo hln aA (bD rfl)) (fun H'' g'=>W9.one rfl (hod.sh.kp ((g.trans g').kp l)) mo) mo (by decide)) (fun H'' g'=>W9.sl rfl (U _ (g.trans g')) (hxs _) mo hln (bD rfl) aA) mo (by decide)
 have T3:∀H',j7 H4 H'->W9 (Sh l) (4+4) (fe W4 (tj fE (O9 1) R7 (aL (O9 2))) (tj fE (O9 1) (aL (fe (tZ fun i j=>.int (i+j)) (O9 2) (tC (.int 1)))) R7)) [some (.ref l),some (.ref ua),some (.int at0),some od,none] H':=fun H' g =>
  W9.cat (W9.sl rfl (U _ g) (hxs _) mo hln aA (bD rfl)) (fun H'' g'=>W9.sl rfl (U _ (g.trans g')) (hxs _) mo hln (fG rfl) aA) mo (by decide)
 show fe W4 _ _ _ _ _
 refine T1 H4 (j7.refl _) _ fun p1 H5 xs1 g5 hp1 e1 l1=>?_
 show fe W4 _ _ _ _ _
 refine T2 H5 g5 _ fun p2 H6 xs2 g6 hp2 e2 l2=>?_
 show fe W4 _ _ _ _ _
 refine T3 H6 (g5.trans g6) _ fun p3 H7 xs3 g7 hp3 e3 l3=>?_
 have g47:=(g5.trans g6).trans g7
 have s7:Y0 l b H H7:=s4.same g47
 refine ⟨_,rfl,ua,_,rfl,.inr (.of (U _ g47)),fun p4 hp4=>⟨(by show 4<=i7;decide),fun ps hps=>?_⟩⟩
 have s8:Y0 l b H (t6 H7 p4 (.lst (ns.map V.int))):=s7.new hp4
 have np4:p4≠l:=(s7.ne hp4).symm
 have s9:Y0 l b H (t6 (t6 H7 p4 (.lst (ns.map V.int))) ps (.lst [.ref p1,.ref p2,.ref p3,.ref p4])):=s8.new hps
 have nps:ps≠l:=(s8.ne hps).symm
 have g79:j7 H7 (t6 (t6 H7 p4 (.lst (ns.map V.int))) ps (.lst [.ref p1,.ref p2,.ref p3,.ref p4])):=(j7.new hp4).trans (j7.new hps)
 have hp4':t6 (t6 H7 p4 (.lst (ns.map V.int))) ps (.lst [.ref p1,.ref p2,.ref p3,.ref p4]) p4=some (.lst (ns.map V.int)):=by rw[B6 (fun e=>by rw[<- e,f6] at hps;cases hps),f6]
 have hps':t6 (t6 H7 p4 (.lst (ns.map V.int))) ps (.lst [.ref p1,.ref p2,.ref p3,.ref p4]) ps=some (.lst [.ref p1,.ref p2,.ref p3,.ref p4]):=f6
 show fk _ _ _ _ (t6 (t6 H7 p4 (.lst (ns.map V.int))) ps (.lst [.ref p1,.ref p2,.ref p3,.ref p4]))
 generalize t6 (t6 H7 p4 (.lst (ns.map V.int))) ps (.lst [.ref p1,.ref p2,.ref p3,.ref p4])=H9 at s9 g79 hp4' hps'
 have tg:∀{p:Addr}{xs:List V}{m:Nat}{Ha:Hp},j7 Ha H9->Ha p=some (.tup xs)->(∀z∈xs,Sh l Ha z)->xs.length<=m->m<=1000->Tg l H9 (.ref p):=fun {p xs m Ha} g h e lm hm=>Tg.tup (g _ _ h) (s9.neL (g _ _ h)) (by lia) fun z hz=>mo _ _ _ g (e z hz)
 have t1:Tg l H9 (.ref p1):=tg ((g6.trans g7).trans g79) hp1 e1 l1 (by decide)
 have t2:Tg l H9 (.ref p2):=tg (g7.trans g79) hp2 e2 l2 (by decide)
 have t3:Tg l H9 (.ref p3):=tg g79 hp3 e3 l3 (by decide)
 have t4:Tg l H9 (.ref p4):=Tg.lst hp4' np4 fun z hz=>(hxs _ z hz).da
 have hod9:Tg l H9 od:=hod.kp ((g47.trans g79).kp l)
 have hua9:=U _ (g47.trans g79)
 clear T1 T2 T3 U
 refine ⟨_,rfl,(by show 1<=i7;decide),fun q0 hq0=>?_⟩
 have gA:j7 H9 (t6 H9 q0 (.tup [.int 0])):=j7.new hq0
 have hA:t6 H9 q0 (.tup [.int 0]) q0=some (.tup [.int 0]):=f6
 dsimp only
 generalize t6 H9 q0 (.tup [.int 0])=HA at gA hA
 refine ⟨_,rfl,ua,_,rfl,.inr (.of (gA _ _ hua9)),q0,.int 0,ns.length,rfl,(by rw[b9]),hA,n1,n4,fun pa HB gB hpa=>?_⟩
 refine ⟨_,rfl,(by show 1<=i7;decide),fun pf hpf=>?_⟩
 have gE:j7 HB (t6 HB pf (.tup [.ref ua])):=j7.new hpf
 have hE:t6 HB pf (.tup [.ref ua]) pf=some (.tup [.ref ua]):=f6
 dsimp only
 generalize t6 HB pf (.tup [.ref ua])=HE at gE hE
 have g9E:=(gA.trans gB).trans gE
 refine ⟨_,rfl,ua,_,rfl,rfl,g9E _ _ hua9,(by rw[b9];exact n1),hln,fun pg HF gF hpg=>⟨_,rfl,(by show 5<=i7;decide),fun ph hph=>?_⟩⟩
 have g9F:=g9E.trans gF
 have s9F:=s9.same g9F
 have hps1:=g9F _ _ hps'
 refine ⟨ps,ph,_,_,rfl,rfl,(by rw[B6 (v8 hps1 hph)];exact hps1),f6,(by show 4+5<=i7;decide),fun pz hpz=>?_⟩
 have gG:j7 HF (t6 (t6 HF ph (.lst [.ref pa,.non,.ref pf,.ref pg,od])) pz (.lst ([.ref p1,.ref p2,.ref p3,.ref p4]++[.ref pa,.non,.ref pf,.ref pg,od]))):=(j7.new hph).trans (j7.new hpz)
 have hz:t6 (t6 HF ph (.lst [.ref pa,.non,.ref pf,.ref pg,od])) pz (.lst ([.ref p1,.ref p2,.ref p3,.ref p4]++[.ref pa,.non,.ref pf,.ref pg,od])) pz=some (.lst ([.ref p1,.ref p2,.ref p3,.ref p4]++[.ref pa,.non,.ref pf,.ref pg,od])):=f6
 have nz:pz≠l:=((s9F.new hph).ne hpz).symm
 have sG:=s9F.same gG
 show Gk _ _ _ (t6 (t6 HF ph (.lst [.ref pa,.non,.ref pf,.ref pg,od])) pz (.lst ([.ref p1,.ref p2,.ref p3,.ref p4]++[.ref pa,.non,.ref pf,.ref pg,od])))
 generalize t6 (t6 HF ph (.lst [.ref pa,.non,.ref pf,.ref pg,od])) pz (.lst ([.ref p1,.ref p2,.ref p3,.ref p4]++[.ref pa,.non,.ref pf,.ref pg,od]))=HG at gG hz sG
 have all:∀y∈([.ref p1,.ref p2,.ref p3,.ref p4]++[.ref pa,.non,.ref pf,.ref pg,od]:List V),Tg l HG y:=fun y hy=>by
  simp only[H0,dz,C1,C0,or_false] at hy
  have k9:=(g9F.trans gG).kp l
  rcases hy with e|e|e|e|e|e|e|e|e
  ·rw[e];exact t1.kp k9
  ·rw[e];exact t2.kp k9
  ·rw[e];exact t3.kp k9
  ·rw[e];exact t4.kp k9
  ·rw[e]
   have h:=((gE.trans gF).trans gG) _ _ hpa
   exact Tg.tup h (sG.neL h) (by rw[J7];lia) fun z hz=>by rw[aF hz];exact (Tg.int _ _ _).sh
  ·rw[e];exact Tg.non _ _
  ·rw[e]
   have h:=(gF.trans gG) _ _ hE
   have hu:=(g9F.trans gG) _ _ hua9
   exact Tg.tup h (sG.neL h) (by show 1<=1000;decide) fun z hz=>by rw[List.mem_singleton.mp hz];exact Sh.tup hu (sG.neL hu) (by lia) fun z' hz'=>(hxs _ z' hz').da
  ·rw[e]
   have h:=gG _ _ hpg
   refine Tg.tup h (sG.neL h) (by simp[E4];lia) fun z hz=>?_
   obtain ⟨ys,h1,h2⟩:=List.mem_flatten.mp hz
   rw[aF h1] at h2
   exact hxs _ z h2
  ·rw[e];exact hod9.kp k9
 generalize hL9:([.ref p1,.ref p2,.ref p3,.ref p4]++[.ref pa,.non,.ref pf,.ref pg,od]:List V)=L9 at hz all
 have hlen9:L9.length=9:=by rw[<- hL9];rfl
 refine ⟨_,rfl,(by show 12<=i7;decide),fun pk hpk=>?_⟩
 have sH:=sG.new (o:=.lst [.int 0,.int 0,.int 0,.int 0,.int 1,.int 2,.int 3,.int 4,.int 5,.int 6,.int 7,.int 8]) hpk
 have npk:pk≠l:=(sG.ne hpk).symm
 have kH:Kp l HG (t6 HG pk (.lst [.int 0,.int 0,.int 0,.int 0,.int 1,.int 2,.int 3,.int 4,.int 5,.int 6,.int 7,.int 8])):=Kp.new hpk
 have hk:t6 HG pk (.lst [.int 0,.int 0,.int 0,.int 0,.int 1,.int 2,.int 3,.int 4,.int 5,.int 6,.int 7,.int 8]) pk=some (.lst [.int 0,.int 0,.int 0,.int 0,.int 1,.int 2,.int 3,.int 4,.int 5,.int 6,.int 7,.int 8]):=f6
 obtain ⟨_,xH,hxH,okH⟩:=id sH
 refine ⟨_,rfl,l,12,xH,b,rfl,hxH,okH,by decide,by decide,fun y xI hy okI=>?_⟩
 have sI:=sH.go okI
 have kI:Kp l (t6 HG pk (.lst [.int 0,.int 0,.int 0,.int 0,.int 1,.int 2,.int 3,.int 4,.int 5,.int 6,.int 7,.int 8])) (t6 (t6 HG pk (.lst [.int 0,.int 0,.int 0,.int 0,.int 1,.int 2,.int 3,.int 4,.int 5,.int 6,.int 7,.int 8])) l (.lst [.int xI,.bl b])):=Kp.at
 have hk2:=kI _ _ npk hk
 have hz2:=(kH.trans kI) _ _ nz hz
 obtain ⟨k,hk3,hk4⟩:=GO y (by lia)
 refine ⟨pk,_,_,_,rfl,rfl,.of hk2,C8 hk3,pz,_,_,L9[k]'(by lia),rfl,rfl,.of hz2,C8 (d9 _),q _ _ sI ((all _ (F7 _)).kp (kH.trans kI))⟩
end
section
variable {P:j9}{w:t9}{K:m9}{mg:Str->Option d6}{base:Heap}{f:Addr}{fd:C4}
theorem JD:∀y:Nat,y<8->∃k:Nat,([.int 0,.int 0,.int 0,.int 0,.int 1,.int 2,.int 3,.int 4]:List V)[y]?=some (.int k)/\k<5
 | 0,_=>⟨0,rfl,by decide⟩
 | 1,_=>⟨0,rfl,by decide⟩
 | 2,_=>⟨0,rfl,by decide⟩
 | 3,_=>⟨0,rfl,by decide⟩
 | 4,_=>⟨1,rfl,by decide⟩
 | 5,_=>⟨2,rfl,by decide⟩
 | 6,_=>⟨3,rfl,by decide⟩
 | 7,_=>⟨4,rfl,by decide⟩
theorem GP:∀y:Nat,y<11->∃k:Nat,([.int 0,.int 0,.int 0,.int 0,.int 0,.int 1,.int 2,.int 3,.int 4,.int 5,.int 6]:List V)[y]?=some (.int k)/\k<7
 | 0,_=>⟨0,rfl,by decide⟩
 | 1,_=>⟨0,rfl,by decide⟩
 | 2,_=>⟨0,rfl,by decide⟩
 | 3,_=>⟨0,rfl,by decide⟩
 | 4,_=>⟨0,rfl,by decide⟩
 | 5,_=>⟨1,rfl,by decide⟩
 | 6,_=>⟨2,rfl,by decide⟩
 | 7,_=>⟨3,rfl,by decide⟩
 | 8,_=>⟨4,rfl,by decide⟩
 | 9,_=>⟨5,rfl,by decide⟩
 | 10,_=>⟨6,rfl,by decide⟩
noncomputable def AK:Sp:=fun vs H Q _=>∃(l:Addr) (rv:V) (x:Int) (b:Bool) (n:Nat) (rs:List (List Int)),vs=[.ref l,rv]/\H l=some (.lst [.int x,.bl b])/\lF x b/\Dt l H (DR rs) rv/\Mt.ma n 5 rs/\1<=n/\n<=4 /\
 ∀(v:V) (H':Hp),Y0 l b H H'->Tg l H' v->Q v H'
noncomputable abbrev GH:Stmt:=eI 55
theorem nH:C3 ["_law_state_here","_law_rule_here","_law_at","_law_k","_law_row","_law_odd_here","_law_rows","_law_one","_law_some"] ["_law_state_here","_law_rule_here"] (v9 GH):=⟨rfl,rfl,rfl,by decide +kernel,rfl,by decide +kernel,by decide +kernel⟩
theorem JO (F:aY K "_law_bent_rule" "_law_bent_rule" GH f fd) (B:Bt mg) (c1:S2 P w K mg base 1 "_law_take" ["_law_state_here","_law_many"] aM):M0 P w K mg base cH 2 f fd ["_law_state_here","_law_rule_here"] AK:=by
 refine F.ok nH (fun vs H Q E h=>?_) (fun cdv A outer s H vs Q E hr h=>?_)
 ·obtain ⟨l,rv,x,b,n,rs,rfl,_⟩:=h
  rfl
 obtain ⟨l,rv,x,b,n,rs,rfl,hl,hst,hrd,hR,n1,n4,q⟩:=h
 refine ⟨_,n5 (rR (i:=2) (j:=3) rfl nH.nd rfl rfl (by decide) rfl rfl (b7 (B8 c1 hr rfl (b7 (pv 0) (b7 (t7 B7 rfl B.len A5 (b7 (pv 1) d8)) d8))) (b7 (B8 c1 hr rfl (b7 (pv 0) (b7 (t7 B7 rfl B.len A5 (b7 (pv 1) d8)) d8))) d8)) rfl)
  (n5 (D6 (i:=4) nH.nd rfl (B5 rfl) (G1 N2 (pv 1) (pv 2) (fun _ _=>rfl)))
  (n5 (D6 (i:=5) nH.nd rfl (B5 rfl) (@G1 _ _ _ _ _ _ _ O7 (@N1 _ _ _ _ (nU 7 rfl (b7 (D0 (b7 j8 d8)) (b7 (A7 lp j8 j8) (b7 (G1 N2 (pv 4) (pv 3) (fun _ _=>rfl)) d8))))) (B8 c1 hr rfl (b7 (pv 0) (b7 j8 d8))) (fun _ _=>rfl)))
  (n5 (D6 (i:=6) nH.nd rfl (B5 rfl) (N1
   (b7 (A7 cf (A7 cf (G0 lN (pv 4) L6 (L5 (pv 3))) (D0 (b7 (pv 5) d8))) (G0 lN (pv 4) (L5 (A7 P7 (pv 3) j8)) L6))
   (b7 (A7 cf (A7 cf (G0 lN (pv 4) L6 (L5 (pv 3))) (D0 (b7 (pv 5) d8))) (G0 lN (pv 4) (L5 (pv 3)) L6))
   (b7 (A7 cf (G0 lN (pv 4) L6 (L5 (pv 3))) (G0 lN (pv 4) (L5 (A7 P7 (pv 3) j8)) L6))
   (b7 (E6 cQ rfl B.list fR (b7 (pv 4) d8)) (lj rfl)))))))
  (n5 (D6 (i:=7) nH.nd rfl (B5 rfl) (rZ rfl (pv 6) (B8 c1 hr rfl (b7 (pv 0) (b7 j8 d8))) (fun _ _=>rfl)))
  (n5 (D6 (i:=8) nH.nd rfl (B5 rfl) (N1
   (b7 (A7 cf (A7 cf (G0 lN (pv 1) L6 (L5 (pv 2))) (D0 (b7 (pv 7) d8))) (G0 lN (pv 1) (L5 (A7 P7 (pv 2) j8)) L6))
   (b7 (A7 cf (G0 lN (pv 1) L6 (L5 (pv 2))) (G0 lN (pv 1) (L5 (A7 P7 (pv 2) j8)) L6))
   (b7 (A7 cf (pv 1) (D0 (b7 (pv 4) d8)))
   (b7 (E6 cQ rfl B.list fR (b7 (pv 1) d8)) (@ja _ _ _ _ _ _ _ fI (b7 (D0 (b7 (pv 1) d8)) d8))))))))
  (v5 (C7 (rZ rfl (A7 lr (pv 8) (N1 (b7 (pv 4) d8))) (B8 c1 hr rfl (b7 (pv 0) (b7 j8 d8))) (fun _ _=>rfl))))))))),?_⟩
 obtain ⟨ra,zs,e,nra,hra,hds⟩:=hrd.untup
 subst e
 have hzl:zs.length=n:=by rw[<- hds.len,b9];exact hR.len
 have s0:Y0 l b H H:=Y0.start hl hst
 refine ⟨_,rfl,_,rfl,ra,_,rfl,.inr (.of hra),l,_,x,b,rfl,hl,hst,(by lia),(by lia),fun at0 x1 hat ok1=>?_⟩
 have s1:=s0.go ok1
 have k1:Kp l H (t6 H l (.lst [.int x1,.bl b])):=Kp.at
 try dsimp only
 generalize t6 H l (.lst [.int x1,.bl b])=H1 at s1 k1
 have hra1:=k1 _ _ nra hra
 obtain ⟨_,x1',hx1,ok1'⟩:=id s1
 refine ⟨_,rfl,_,rfl,ra,_,rfl,.inr (.of hra1),l,_,x1',b,rfl,hx1,ok1',(by lia),(by lia),fun k0 x2 hk0 Ad=>⟨_,_,rfl,?_⟩⟩
 have s2:=s1.go Ad
 have k2:Kp l H1 (t6 H1 l (.lst [.int x2,.bl b])):=Kp.at
 try dsimp only
 generalize t6 H1 l (.lst [.int x2,.bl b])=H2 at s2 k2
 have hat':at0<rs.length:=by rw[hR.len];lia
 obtain ⟨ra',zs',lb,e1,e2,hzb,hlb⟩:=Ie hrd hat'
 cases e1
 rw[hra] at e2
 cases e2
 have hrow:Mt.Dz n 5 (rs.getD at0 []):=hR.at (by rw[<- hR.len];exact hat')
 generalize rs.getD at0 []=row at hlb hrow
 have nlb:lb≠l:=HJ hl hlb
 have hra2:=k2 _ _ nra hra1
 have hlb2:=(k1.trans k2) _ _ nlb hlb
 have hds2:=hds.kp (k1.trans k2)
 have hrl:=hrow.len
 refine ⟨_,rfl,_,rfl,ra,_,_,_,rfl,rfl,.of hra2,C8 hzb,?_⟩
 refine ⟨(by show 1<=i7;decide),fun pt hpt=>?_⟩
 have s3:Y0 l b H (t6 H2 pt (.tup [.int 1])):=s2.new hpt
 have g3:j7 H2 (t6 H2 pt (.tup [.int 1])):=j7.new hpt
 have hpt3:t6 H2 pt (.tup [.int 1]) pt=some (.tup [.int 1]):=f6
 try dsimp only
 generalize t6 H2 pt (.tup [.int 1])=H3 at s3 g3 hpt3
 have npt:pt≠l:=s3.neL hpt3
 refine ⟨_,_,rfl,rfl,⟨by decide,by decide,by decide⟩,_,rfl,_,rfl,lb,_,_,_,rfl,rfl,.of (g3 _ _ hlb2),bO (by lia),(by show 10<=i7;decide),fun po hpo=>?_⟩
 have s4:=s3.new (o:=.lst ([.int 6,.int (-1),.int 5,.int 0,.bl true,.non,.str "1"]++[.ref pt,.int (10 ^ 29),.int (row.getD k0 0)])) hpo
 have npo:po≠l:=(s3.ne hpo).symm
 have g4:j7 H3 (t6 H3 po (.lst ([.int 6,.int (-1),.int 5,.int 0,.bl true,.non,.str "1"]++[.ref pt,.int (10 ^ 29),.int (row.getD k0 0)]))):=j7.new hpo
 have hpo4:t6 H3 po (.lst ([.int 6,.int (-1),.int 5,.int 0,.bl true,.non,.str "1"]++[.ref pt,.int (10 ^ 29),.int (row.getD k0 0)])) po=some (.lst ([.int 6,.int (-1),.int 5,.int 0,.bl true,.non,.str "1"]++[.ref pt,.int (10 ^ 29),.int (row.getD k0 0)])):=f6
 show Jl aM _ _ (t6 H3 po (.lst ([.int 6,.int (-1),.int 5,.int 0,.bl true,.non,.str "1"]++[.ref pt,.int (10 ^ 29),.int (row.getD k0 0)]))) _
 generalize hX:(([.int 6,.int (-1),.int 5,.int 0,.bl true,.non,.str "1"]++[.ref pt,.int (10 ^ 29),.int (row.getD k0 0)]):List V)=X10 at s4 g4 hpo4
 have hX10:X10.length=10/\∀(H':Hp),H' pt=some (.tup [.int 1])->∀y∈X10,Tg l H' y:=by
  rw[<- hX]
  refine ⟨rfl,fun H' h y hy=>?_⟩
  simp only[H0,dz,C1,C0,or_false] at hy
  rcases hy with e|e|e|e|e|e|e|e|e|e
  ·rw[e];exact Tg.int _ _ _
  ·rw[e];exact Tg.int _ _ _
  ·rw[e];exact Tg.int _ _ _
  ·rw[e];exact Tg.int _ _ _
  ·rw[e];exact Tg.bl _ _ _
  ·rw[e];exact Tg.non _ _
  ·rw[e];exact Tg.str _ _ _
  ·rw[e];exact Tg.tup h npt (by decide) fun z hz=>by rw[List.mem_singleton.mp hz];exact (Tg.int _ _ _).sh
  ·rw[e];exact Tg.int _ _ _
  ·rw[e];exact Tg.int _ _ _
 clear hX
 have g24:=g3.trans g4
 have hpt4:=g4 _ _ hpt3
 generalize t6 H3 po (.lst X10)=H4 at s4 g24 g4 hpo4 hpt4
 obtain ⟨_,x4,hx4,ok4⟩:=id s4
 refine ⟨_,rfl,l,10,x4,b,rfl,hx4,ok4,by decide,by decide,fun y x5 hy ok5=>?_⟩
 have s5:=s4.go ok5
 have k5:Kp l H4 (t6 H4 l (.lst [.int x5,.bl b])):=Kp.at
 dsimp only
 generalize t6 H4 l (.lst [.int x5,.bl b])=H5 at s5 k5
 have k25:=(g24.kp l).trans k5
 have hra5:=k25 _ _ nra hra2
 have hlb5:=k25 _ _ nlb hlb2
 have hds5:=hds2.kp k25
 have hpt5:=k5 _ _ npt hpt4
 have hpo5:=k5 _ _ npo hpo4
 have hy10:y<X10.length:=by rw[hX10.1];lia
 refine ⟨po,_,_,X10[y],rfl,rfl,.of hpo5,C8 (d9 hy10),?_⟩
 have hod:Tg l H5 X10[y]:=hX10.2 H5 hpt5 _ (F7 hy10)
 generalize X10[y]=od at hod
 clear hX10 hy10 hpo5 hpo4 hpt5 hpt4 hpt3 k25 g24 k5 g4 g3 s4 s3 s2 s1 k1 k2 hra1 hra2 hlb2 hds2 hx1 hx4
 have moD:∀(H H':Hp) (v:V),j7 H H'->Da l H v->Da l H' v:=fun H H' v g h=>h.kp (g.kp l)
 have moS:∀(H H':Hp) (v:V),j7 H H'->Sh l H v->Sh l H' v:=fun H H' v g h=>h.kp (g.kp l)
 have hxs:∀H',∀z∈row.map V.int,Da l H' z:=fun H' z hz=>by
  obtain ⟨i,_,e⟩:=List.mem_map.mp hz
  rw[<- e];exact (Tg.int _ _ _).sh.da
 have hln:(row.map V.int).length<=4:=by rw[b9,hrow.len];exact n4
 have U:∀H',j7 H5 H'->H' lb=some (.tup (row.map V.int)):=fun H' g=>g _ _ hlb5
 have T1:∀H',j7 H5 H'->W9 (Da l) (4+1+4) (fe W4 (fe W4 (tj fE (O9 4) R7 (aL (O9 3))) (pA (bV (O9 5) jQ))) (tj fE (O9 4) (aL (fe (tZ fun i j=>.int (i+j)) (O9 3) (tC (.int 1)))) R7)) [some (.ref l),some (.ref ra),some (.int at0),some (.int k0),some (.ref lb),some od,none,none,none] H':=fun H' g =>
  W9.cat (W9.cat (W9.sl rfl (U _ g) (hxs _) moD hln aA (bD rfl)) (fun H'' g'=>W9.one rfl (hod.sh.da.kp ((g.trans g').kp l)) moD) moD (by decide)) (fun H'' g'=>W9.sl rfl (U _ (g.trans g')) (hxs _) moD hln (fG rfl) aA) moD (by decide)
 have T2:∀H',j7 H5 H'->W9 (Da l) (4+1+4) (fe W4 (fe W4 (tj fE (O9 4) R7 (aL (O9 3))) (pA (bV (O9 5) jQ))) (tj fE (O9 4) (aL (O9 3)) R7)) [some (.ref l),some (.ref ra),some (.int at0),some (.int k0),some (.ref lb),some od,none,none,none] H':=fun H' g =>
  W9.cat (W9.cat (W9.sl rfl (U _ g) (hxs _) moD hln aA (bD rfl)) (fun H'' g'=>W9.one rfl (hod.sh.da.kp ((g.trans g').kp l)) moD) moD (by decide)) (fun H'' g'=>W9.sl rfl (U _ (g.trans g')) (hxs _) moD hln (bD rfl) aA) moD (by decide)
 have T3:∀H',j7 H5 H'->W9 (Da l) (4+4) (fe W4 (tj fE (O9 4) R7 (aL (O9 3))) (tj fE (O9 4) (aL (fe (tZ fun i j=>.int (i+j)) (O9 3) (tC (.int 1)))) R7)) [some (.ref l),some (.ref ra),some (.int at0),some (.int k0),some (.ref lb),some od,none,none,none] H':=fun H' g =>
  W9.cat (W9.sl rfl (U _ g) (hxs _) moD hln aA (bD rfl)) (fun H'' g'=>W9.sl rfl (U _ (g.trans g')) (hxs _) moD hln (fG rfl) aA) moD (by decide)
 show fe W4 _ _ _ _ _
 refine T1 H5 (j7.refl _) _ fun p1 H6 xs1 g6 hp1 e1 l1=>?_
 show fe W4 _ _ _ _ _
 refine T2 H6 g6 _ fun p2 H7 xs2 g7 hp2 e2 l2=>?_
 show fe W4 _ _ _ _ _
 refine T3 H7 (g6.trans g7) _ fun p3 H8 xs3 g8 hp3 e3 l3=>?_
 have g58:=(g6.trans g7).trans g8
 have s8:Y0 l b H H8:=s5.same g58
 refine ⟨_,rfl,lb,_,rfl,.inr (.of (U _ g58)),fun p4 hp4=>⟨(by show 5<=i7;decide),fun prw hprw=>?_⟩⟩
 have s9:Y0 l b H (t6 H8 p4 (.lst (row.map V.int))):=s8.new hp4
 have np4:p4≠l:=(s8.ne hp4).symm
 have s10:Y0 l b H (t6 (t6 H8 p4 (.lst (row.map V.int))) prw (.lst [.ref p1,.ref p2,.ref p3,.ref p4,.non])):=s9.new hprw
 have nprw:prw≠l:=(s9.ne hprw).symm
 have g810:j7 H8 (t6 (t6 H8 p4 (.lst (row.map V.int))) prw (.lst [.ref p1,.ref p2,.ref p3,.ref p4,.non])):=(j7.new hp4).trans (j7.new hprw)
 have hp4':t6 (t6 H8 p4 (.lst (row.map V.int))) prw (.lst [.ref p1,.ref p2,.ref p3,.ref p4,.non]) p4=some (.lst (row.map V.int)):=by rw[B6 (fun e=>by rw[<- e,f6] at hprw;cases hprw),f6]
 have hprw':t6 (t6 H8 p4 (.lst (row.map V.int))) prw (.lst [.ref p1,.ref p2,.ref p3,.ref p4,.non]) prw=some (.lst [.ref p1,.ref p2,.ref p3,.ref p4,.non]):=f6
 show fk _ _ _ _ (t6 (t6 H8 p4 (.lst (row.map V.int))) prw (.lst [.ref p1,.ref p2,.ref p3,.ref p4,.non]))
 generalize t6 (t6 H8 p4 (.lst (row.map V.int))) prw (.lst [.ref p1,.ref p2,.ref p3,.ref p4,.non])=H10 at s10 g810 hp4' hprw'
 have tg:∀{p:Addr}{xs:List V}{m:Nat}{Ha:Hp},j7 Ha H10->Ha p=some (.tup xs)->(∀z∈xs,Da l Ha z)->xs.length<=m->m<=1000->Sh l H10 (.ref p):=fun {p xs m Ha} g h e lm hm=>Sh.tup (g _ _ h) (s10.neL (g _ _ h)) (by lia) fun z hz=>moD _ _ _ g (e z hz)
 have alr:∀z∈([.ref p1,.ref p2,.ref p3,.ref p4,.non]:List V),Sh l H10 z:=fun z hz=>by
  simp only[C1,C0,or_false] at hz
  rcases hz with e|e|e|e|e
  ·rw[e];exact tg ((g7.trans g8).trans g810) hp1 e1 l1 (by decide)
  ·rw[e];exact tg (g8.trans g810) hp2 e2 l2 (by decide)
  ·rw[e];exact tg g810 hp3 e3 l3 (by decide)
  ·rw[e];exact (Tg.lst hp4' np4 fun z hz=>hxs _ z hz).sh
  ·rw[e];exact (Tg.non _ _).sh
 generalize hrws:([.ref p1,.ref p2,.ref p3,.ref p4,.non]:List V)=rws at hprw' alr
 have hrl5:rws.length=5:=by rw[<- hrws];rfl
 clear T1 T2 T3
 refine ⟨_,rfl,(by show 8<=i7;decide),fun pk hpk=>?_⟩
 have s11:=s10.new (o:=.lst [.int 0,.int 0,.int 0,.int 0,.int 1,.int 2,.int 3,.int 4]) hpk
 have npk:pk≠l:=(s10.ne hpk).symm
 have k11:Kp l H10 (t6 H10 pk (.lst [.int 0,.int 0,.int 0,.int 0,.int 1,.int 2,.int 3,.int 4])):=Kp.new hpk
 have hk11:t6 H10 pk (.lst [.int 0,.int 0,.int 0,.int 0,.int 1,.int 2,.int 3,.int 4]) pk=some (.lst [.int 0,.int 0,.int 0,.int 0,.int 1,.int 2,.int 3,.int 4]):=f6
 obtain ⟨_,x11,hx11,ok11⟩:=id s11
 refine ⟨_,rfl,l,8,x11,b,rfl,hx11,ok11,by decide,by decide,fun y2 x12 hy2 ok12=>?_⟩
 have s12:=s11.go ok12
 have k12:Kp l (t6 H10 pk (.lst [.int 0,.int 0,.int 0,.int 0,.int 1,.int 2,.int 3,.int 4])) (t6 (t6 H10 pk (.lst [.int 0,.int 0,.int 0,.int 0,.int 1,.int 2,.int 3,.int 4])) l (.lst [.int x12,.bl b])):=Kp.at
 have hk12:=k12 _ _ npk hk11
 have k1012:=k11.trans k12
 dsimp only
 generalize t6 (t6 H10 pk (.lst [.int 0,.int 0,.int 0,.int 0,.int 1,.int 2,.int 3,.int 4])) l (.lst [.int x12,.bl b])=H12 at s12 hk12 k1012
 obtain ⟨k,hk3,hk4⟩:∃k:Nat,([.int 0,.int 0,.int 0,.int 0,.int 1,.int 2,.int 3,.int 4]:List V)[y2]?=some (.int k)/\k<5:=JD y2 (by lia)
 refine ⟨pk,_,_,_,rfl,rfl,.of hk12,C8 hk3,prw,_,_,rws[k]'(by lia),rfl,rfl,.of (k1012 _ _ nprw hprw'),C8 (d9 _),?_⟩
 have hon:Sh l H12 (rws[k]'(by lia)):=(alr _ (F7 _)).kp k1012
 generalize rws[k]'(by lia)=on at hon
 have k512:=((g58.trans g810).kp l).trans k1012
 have hra12:=k512 _ _ nra hra5
 have hlb12:=k512 _ _ nlb hlb5
 have hod12:=hod.kp k512
 have hds12:=hds5.kp k512
 have hlbS:∀H',j7 H12 H'->Sh l H' (.ref lb):=fun H' g=>Sh.tup (g _ _ hlb12) nlb (by lia) fun z hz=>hxs _ z hz
 have hzs:∀H',j7 H12 H'->∀z∈zs,Sh l H' z:=fun H' g z hz=>by
  obtain ⟨i,hi⟩:=List.getElem?_of_mem hz
  obtain ⟨d,hd,dt⟩:=hds12.get hi
  rw[n8] at hd
  obtain ⟨r,hr',e⟩:=Option.map_eq_some_iff.mp hd
  subst e
  have hm:=B0 hr'
  exact ⟨_,dt.kp (g.kp l),gX (by rw[(hR.row r hm).len];lia)⟩
 have hzl4:zs.length<=4:=by lia
 have V1:∀H',j7 H12 H'->W9 (Sh l) (4+1+4) (fe W4 (fe W4 (tj fE (O9 1) R7 (aL (O9 2))) (pA (bV (O9 7) jQ))) (tj fE (O9 1) (aL (fe (tZ fun i j=>.int (i+j)) (O9 2) (tC (.int 1)))) R7)) [some (.ref l),some (.ref ra),some (.int at0),some (.int k0),some (.ref lb),some od,some (.ref prw),some on,none] H':=fun H' g =>
  W9.cat (W9.cat (W9.sl rfl (g _ _ hra12) (hzs _ g) moS hzl4 aA (bD rfl)) (fun H'' g'=>W9.one rfl (hon.kp ((g.trans g').kp l)) moS) moS (by decide)) (fun H'' g'=>W9.sl rfl ((g.trans g') _ _ hra12) (hzs _ (g.trans g')) moS hzl4 (fG rfl) aA) moS (by decide)
 have V2:∀H',j7 H12 H'->W9 (Sh l) (4+4) (fe W4 (tj fE (O9 1) R7 (aL (O9 2))) (tj fE (O9 1) (aL (fe (tZ fun i j=>.int (i+j)) (O9 2) (tC (.int 1)))) R7)) [some (.ref l),some (.ref ra),some (.int at0),some (.int k0),some (.ref lb),some od,some (.ref prw),some on,none] H':=fun H' g =>
  W9.cat (W9.sl rfl (g _ _ hra12) (hzs _ g) moS hzl4 aA (bD rfl)) (fun H'' g'=>W9.sl rfl ((g.trans g') _ _ hra12) (hzs _ (g.trans g')) moS hzl4 (fG rfl) aA) moS (by decide)
 have V3:∀H',j7 H12 H'->W9 (Sh l) (4+1) (fe W4 (O9 1) (pA (bV (O9 4) jQ))) [some (.ref l),some (.ref ra),some (.int at0),some (.int k0),some (.ref lb),some od,some (.ref prw),some on,none] H':=fun H' g =>
  W9.cat (W9.var rfl (g _ _ hra12) (hzs _ g) hzl4) (fun H'' g'=>W9.one rfl (hlbS _ (g.trans g')) moS) moS (by decide)
 show fe W4 _ _ _ _ _
 refine V1 H12 (j7.refl _) _ fun q1 J1 ys1 j1 hq1 f1 m1=>?_
 show fe W4 _ _ _ _ _
 refine V2 J1 j1 _ fun q2 J2 ys2 j2 hq2 f2 m2=>?_
 show fe W4 _ _ _ _ _
 refine V3 J2 (j1.trans j2) _ fun q3 J3 ys3 j3 hq3 f3 m3=>?_
 have j123:=(j1.trans j2).trans j3
 have t3:Y0 l b H J3:=s12.same j123
 refine ⟨_,rfl,ra,_,rfl,.inr (.of (j123 _ _ hra12)),fun q4 hq4=>?_⟩
 have t4:Y0 l b H (t6 J3 q4 (.lst zs)):=t3.new hq4
 have nq4:q4≠l:=(t3.ne hq4).symm
 have j4:j7 J3 (t6 J3 q4 (.lst zs)):=j7.new hq4
 have hq4':t6 J3 q4 (.lst zs) q4=some (.lst zs):=f6
 try dsimp only
 generalize t6 J3 q4 (.lst zs)=J4 at t4 j4 hq4'
 refine ⟨_,rfl,(by show 1<=i7;decide),fun pf hpf=>⟨(by show 6<=i7;decide),fun ps hps=>?_⟩⟩
 have hE:t6 J4 pf (.tup [.ref ra]) pf=some (.tup [.ref ra]):=f6
 have j5:j7 J4 (t6 (t6 J4 pf (.tup [.ref ra])) ps (.lst [.ref q1,.ref q2,.ref q3,.ref q4,.non,.ref pf])):=(j7.new hpf).trans (j7.new hps)
 have hE5:t6 (t6 J4 pf (.tup [.ref ra])) ps (.lst [.ref q1,.ref q2,.ref q3,.ref q4,.non,.ref pf]) pf=some (.tup [.ref ra]):=j7.new hps _ _ hE
 have hps':t6 (t6 J4 pf (.tup [.ref ra])) ps (.lst [.ref q1,.ref q2,.ref q3,.ref q4,.non,.ref pf]) ps=some (.lst [.ref q1,.ref q2,.ref q3,.ref q4,.non,.ref pf]):=f6
 dsimp only[N7]
 generalize t6 (t6 J4 pf (.tup [.ref ra])) ps (.lst [.ref q1,.ref q2,.ref q3,.ref q4,.non,.ref pf])=J5 at j5 hE5 hps'
 have t5:=t4.same j5
 have j15:=(j123.trans j4).trans j5
 have tg2:∀{p:Addr}{xs:List V}{m:Nat}{Ha:Hp},j7 Ha J5->Ha p=some (.tup xs)->(∀z∈xs,Sh l Ha z)->xs.length<=m->m<=1000->Tg l J5 (.ref p):=fun {p xs m Ha} g h e lm hm=>Tg.tup (g _ _ h) (t5.neL (g _ _ h)) (by lia) fun z hz=>moS _ _ _ g (e z hz)
 have u1:Tg l J5 (.ref q1):=tg2 (((j2.trans j3).trans j4).trans j5) hq1 f1 m1 (by decide)
 have u2:Tg l J5 (.ref q2):=tg2 ((j3.trans j4).trans j5) hq2 f2 m2 (by decide)
 have u3:Tg l J5 (.ref q3):=tg2 (j4.trans j5) hq3 f3 m3 (by decide)
 have u4:Tg l J5 (.ref q4):=Tg.lst (j5 _ _ hq4') nq4 fun z hz=>(hzs _ j15 z hz).da
 have u6:Tg l J5 (.ref pf):=Tg.tup hE5 (t5.neL hE5) (by show 1<=1000;decide) fun z hz=>by rw[List.mem_singleton.mp hz];exact Sh.tup (j15 _ _ hra12) nra (by lia) fun z' hz'=>(hzs _ j15 z' hz').da
 have u7:Tg l J5 (.ref lb):=Tg.tup (j15 _ _ hlb12) nlb (by lia) fun z hz=>by
  obtain ⟨i,_,e⟩:=List.mem_map.mp hz
  rw[<- e];exact (Tg.int _ _ _).sh
 clear V1 V2 V3
 refine ⟨_,rfl,_,rfl,(by show 1<=i7;decide),fun ph hph=>⟨ps,ph,_,_,rfl,rfl,(by rw[B6 (v8 hps' hph)];exact hps'),f6,(by show 6+1<=i7;decide),fun pz hpz=>?_⟩⟩
 have gG:j7 J5 (t6 (t6 J5 ph (.lst [.ref lb])) pz (.lst ([.ref q1,.ref q2,.ref q3,.ref q4,.non,.ref pf]++[.ref lb]))):=(j7.new hph).trans (j7.new hpz)
 have hz:t6 (t6 J5 ph (.lst [.ref lb])) pz (.lst ([.ref q1,.ref q2,.ref q3,.ref q4,.non,.ref pf]++[.ref lb])) pz=some (.lst ([.ref q1,.ref q2,.ref q3,.ref q4,.non,.ref pf]++[.ref lb])):=f6
 have nz:pz≠l:=((t5.new hph).ne hpz).symm
 have sG:=t5.same gG
 try dsimp only
 generalize t6 (t6 J5 ph (.lst [.ref lb])) pz (.lst ([.ref q1,.ref q2,.ref q3,.ref q4,.non,.ref pf]++[.ref lb]))=HG at gG hz sG
 have all:∀y∈(([.ref q1,.ref q2,.ref q3,.ref q4,.non,.ref pf]++[.ref lb]):List V),Tg l HG y:=fun y hy=>by
  simp only[H0,dz,C1,C0,or_false] at hy
  have k9:=gG.kp l
  rcases hy with e|e|e|e|e|e|e
  ·rw[e];exact u1.kp k9
  ·rw[e];exact u2.kp k9
  ·rw[e];exact u3.kp k9
  ·rw[e];exact u4.kp k9
  ·rw[e];exact Tg.non _ _
  ·rw[e];exact u6.kp k9
  ·rw[e];exact u7.kp k9
 generalize hL10:(([.ref q1,.ref q2,.ref q3,.ref q4,.non,.ref pf]++[.ref lb]):List V)=L10 at hz all
 have hlen10:L10.length=7:=by rw[<- hL10];rfl
 refine ⟨(by show 11<=i7;decide),fun pk2 hpk2=>?_⟩
 have sH:=sG.new (o:=.lst [.int 0,.int 0,.int 0,.int 0,.int 0,.int 1,.int 2,.int 3,.int 4,.int 5,.int 6]) hpk2
 have npk2:pk2≠l:=(sG.ne hpk2).symm
 have kH:Kp l HG (t6 HG pk2 (.lst [.int 0,.int 0,.int 0,.int 0,.int 0,.int 1,.int 2,.int 3,.int 4,.int 5,.int 6])):=Kp.new hpk2
 have hkk:t6 HG pk2 (.lst [.int 0,.int 0,.int 0,.int 0,.int 0,.int 1,.int 2,.int 3,.int 4,.int 5,.int 6]) pk2=some (.lst [.int 0,.int 0,.int 0,.int 0,.int 0,.int 1,.int 2,.int 3,.int 4,.int 5,.int 6]):=f6
 obtain ⟨_,xH,hxH,okH⟩:=id sH
 refine ⟨_,rfl,l,11,xH,b,rfl,hxH,okH,by decide,by decide,fun y3 xI hy3 okI=>?_⟩
 have sI:=sH.go okI
 have kI:Kp l (t6 HG pk2 (.lst [.int 0,.int 0,.int 0,.int 0,.int 0,.int 1,.int 2,.int 3,.int 4,.int 5,.int 6])) (t6 (t6 HG pk2 (.lst [.int 0,.int 0,.int 0,.int 0,.int 0,.int 1,.int 2,.int 3,.int 4,.int 5,.int 6])) l (.lst [.int xI,.bl b])):=Kp.at
 have hkk2:=kI _ _ npk2 hkk
 have hz2:=(kH.trans kI) _ _ nz hz
 obtain ⟨k',hk5,hk6⟩:∃k:Nat,([.int 0,.int 0,.int 0,.int 0,.int 0,.int 1,.int 2,.int 3,.int 4,.int 5,.int 6]:List V)[y3]?=some (.int k)/\k<7:=GP y3 (by lia)
 refine ⟨pk2,_,_,_,rfl,rfl,.of hkk2,C8 hk5,pz,_,_,L10[k']'(by lia),rfl,rfl,.of hz2,C8 (d9 _),q _ _ sI ((all _ (F7 _)).kp (kH.trans kI))⟩
end
end G
namespace L2
open PySem PySem.Spec PyProof.Rows
theorem FK:∀a b:List Int,X5 (a.map G4) (b.map G4)=decide (a=b)
 | [],[]=>by unfold X5;rfl
 | [],y::b=>by
  show X5 [] (.int y::b.map G4)=_
  unfold X5;rfl
 | x::a,[]=>by
  show X5 (.int x::a.map G4) []=_
  unfold X5;rfl
 | x::a,y::b=>by
  show X5 (.int x::a.map G4) (.int y::b.map G4)=_
  unfold X5
  rw[FK a b]
  unfold gH
  by_cases h:x=y
  ·subst h;simp
  ·simp[h]
open PySem.W (KasT)
section
variable {n:Nat} (hn:0<n)
include hn
end
end L2
namespace L2
open PySem PySem.Spec PyProof.Rows
section
variable {prog:j9}{w:t9}{A:v7}{E:d6->d7->Prop}{s:d7}
end
section
variable {prog:j9}{w:t9}{A:v7}{E:d6->d7->Prop}{s:d7}{v d:Addr}{od:Obj}{es:Array dJ}{ep:Nat}
end
section
variable {prog:j9}{w:t9}{A:v7}{E:d6->d7->Prop}{s:d7}
end
section
variable {prog:j9}{w:t9}{A:v7}{E:d6->d7->Prop}{s:d7}
end
section
variable {X:Cx}{pins:List (Addr × Obj)}{σ:St}{H:Hp}{s:d7}
end
section
variable {K:m9}{σ0:St}{te:TE}{H:Hp}{F:List V->Hp->Prop}
end
theorem oB:∀ns:List Int,bj (ns.map G4)=true
 | []=>rfl
 | n::ns=>by
  show bj (.int n::ns.map G4)=true
  unfold bj
  rw[oB ns]
  first|rfl|simp[U7]
theorem yp:∀ns:List Int,gO (ns.map G4)<=1
 | []=>by first|decide|simp[gO]
 | n::ns=>by
  have:=yp ns
  show gO (.int n::ns.map G4)<=1
  unfold gO
  have h:dw (.int n)<=1:=by first|decide|simp[dw]
  lia
theorem JR (ns:List Int):U7 (DI ns)=true/\dw (DI ns)<=2:=by
 refine ⟨?_,?_⟩
 ·show U7 (.tuple (ns.map G4))=true
  unfold U7
  exact oB ns
 ·have:=yp ns
  show dw (.tuple (ns.map G4))<=2
  unfold dw
  lia
theorem jS (ns:List Int):T5 (DI ns)=true:=by
 unfold T5
 rw[A6]
 exact ⟨(JR ns).1,decide_eq_true (by have:=(JR ns).2;lia)⟩
theorem JV (a b:List Int):gH (DI a) (DI b)=decide (a=b):=by unfold DI gH;exact FK a b
theorem EC {H:Hp}{x y:V}{a b:List Int}{l:Addr}{Q:VK} (hx:Dt l H (DI a) x) (hy:Dt l H (DI b) y) (q:Q (.bl (!decide (a=b))) H):GM x y H Q:=by
 refine ⟨l,DI a,DI b,hx,hy,jS a,jS b,?_⟩
 rw[JV];exact q
end L2
namespace Mq
open PySem PySem.Spec L2 Mt Md
noncomputable abbrev P2:=List (List Int × Rat)
noncomputable def cg:P2->List Int->Rat->P2
 | [],k,x=>[(k,x)]
 | p::D,k,x=>if p.1=k then (p.1,p.2+x)::D else p::cg D k x
noncomputable def eO:P2->List Int->Rat
 | [],_=>0
 | p::D,k=>if p.1=k then p.2 else eO D k
noncomputable def ir:P2->(List Int->Rat)->Rat
 | [],_=>0
 | p::D,φ=>p.2*φ p.1+ir D φ
theorem bF (p:List Int × Rat) (D:P2) (φ:List Int->Rat):ir (p::D) φ=p.2*φ p.1+ir D φ:=rfl
theorem ux (k:List Int) (x:Rat) (φ:List Int->Rat):∀D:P2,ir (cg D k x) φ=ir D φ+x*φ k
 | []=>by show x*φ k+0=0+x*φ k;grind
 | p::D=>by
  unfold cg
  split
  ·rename_i e
   rw[bF,bF]
   show (p.2+x)*φ p.1+_=_
   rw[e];grind
  ·rw[bF,bF,ux k x φ D];grind
theorem ly {k:List Int}{x:Rat}:∀{D:P2}{p:List Int × Rat},p∈cg D k x->p.1=k ∨ ∃q∈D,q.1=p.1
 | [],p,h=>by
  unfold cg at h
  rw[List.mem_singleton.mp h];exact .inl rfl
 | q::D,p,h=>by
  unfold cg at h
  split at h
  ·rcases List.mem_cons.mp h with z|z
   ·subst z;exact .inr ⟨q,i4,rfl⟩
   ·exact .inr ⟨p,f7 _ z,rfl⟩
  ·rcases List.mem_cons.mp h with z|z
   ·subst z;exact .inr ⟨_,i4,rfl⟩
   ·rcases ly z with y|⟨r,hr,e⟩
    ·exact .inl y
    ·exact .inr ⟨r,f7 _ hr,e⟩
theorem uy (k:List Int) (x:Rat):∀D:P2,(cg D k x).length<=D.length+1
 | []=>by unfold cg;simp
 | p::D=>by
  unfold cg
  split
  ·simp
  ·have:=uy k x D
   rw[r6,r6];lia
noncomputable def qK (D:P2):Prop:=(D.map (·.1)).Nodup
theorem xW {k:List Int}{x:Rat}:∀{D:P2},qK D->qK (cg D k x)
 | [],_=>by unfold cg qK;simp
 | p::D,h=>by
  unfold qK at h
  rw[B9,aH] at h
  unfold cg
  split
  ·unfold qK;rw[B9,aH];exact h
  ·rename_i e
   unfold qK;rw[B9,aH]
   refine ⟨fun z=>?_,xW h.2⟩
   obtain ⟨q,hq,eq⟩:=List.mem_map.mp z
   rcases ly hq with y|⟨r,hr,er⟩
   ·exact e (by rw[<- eq,y])
   ·exact h.1 (List.mem_map.mpr ⟨r,hr,by rw[er,eq]⟩)
noncomputable def oH (H:Hp) (x:Rat) (v:V):Prop:=∃q,v=.ref q/\H q=some (.tup ((fr x).map V.int))
variable {x:Rat}
theorem oH.same {H H':Hp}{v:V} (h:∀a xs,H a=some (.tup xs)->H' a=some (.tup xs)):oH H x v->oH H' x v:=fun ⟨q,e,a⟩=>⟨q,e,h _ _ a⟩
noncomputable def QE (H:Hp):P2->List (List V0 × V)->Prop
 | [],[]=>True
 | p::T,kv::kvs=>kv.1=kI p.1/\oH H p.2 kv.2/\QE H T kvs
 | _,_=>False
theorem QE.mono {H H':Hp} (h:∀a xs,H a=some (.tup xs)->H' a=some (.tup xs)):∀{T:P2}{kvs:List (List V0 × V)},QE H T kvs->QE H' T kvs
 | [],[],_=>trivial
 | _::_,_::_,⟨a,b,c⟩=>⟨a,b.same h,QE.mono h c⟩
 | [],_::_,h'=>h'.elim
 | _::_,[],h'=>h'.elim
theorem QE.len {H:Hp}:∀{T:P2}{kvs:List (List V0 × V)},QE H T kvs->kvs.length=T.length
 | [],[],_=>rfl
 | _::_,_::_,⟨_,_,c⟩=>by rw[r6,r6,QE.len c]
 | [],_::_,h'=>h'.elim
 | _::_,[],h'=>h'.elim
theorem QE.get {H:Hp}:∀{T:P2}{kvs:List (List V0 × V)}{i:Nat}{k:List V0}{x:V},QE H T kvs->kvs[i]?=some (k,x)->∃p,T[i]?=some p/\k=kI p.1/\oH H p.2 x
 | p::_,_::_,0,_,_,⟨a,b,_⟩,h=>by cases h;exact ⟨p,rfl,a,b⟩
 | _::_,_::_,i+1,_,_,⟨_,_,c⟩,h=>QE.get (i:=i) c (by simpa using h)
 | [],[],_,_,_,_,h=>by simp at h
 | [],_::_,_,_,_,h',_=>h'.elim
 | _::_,[],_,_,_,h',_=>h'.elim
theorem QE.val {H:Hp}{k:List Int}{z:V} (hz:oH H 0 z):∀{T:P2}{kvs:List (List V0 × V)},QE H T kvs->oH H (eO T k) ((jo kvs (kI k)).getD z)
 | [],[],_=>hz
 | p::T,kv::kvs,⟨a,b,c⟩=>by
  obtain ⟨kk,x⟩:=kv
  have a:kk=kI p.1:=a
  subst a
  unfold eO
  by_cases e:p.1=k
  ·rw[if_pos e,gS (by rw[e])];exact b
  ·rw[if_neg e,eM (fun z=>e (jy z))];exact QE.val hz c
 | [],_::_,h'=>h'.elim
 | _::_,[],h'=>h'.elim
theorem QE.any {H:Hp}{k:List Int}:∀{T:P2}{kvs:List (List V0 × V)},QE H T kvs->(kvs.any fun kv=>decide (kv.1=kI k))=decide (k∈T.map (·.1))
 | [],[],_=>rfl
 | p::T,kv::kvs,⟨a,_,c⟩=>by
  obtain ⟨kk,x⟩:=kv
  have a:kk=kI p.1:=a
  subst a
  show (decide (kI p.1=kI k) || kvs.any _)=_
  rw[QE.any c]
  by_cases e:p.1=k
  ·rw[decide_eq_true (show kI p.1=kI k by rw[e]),xo,decide_eq_true (by rw[<- e];simp)]
  ·rw[decide_eq_false (fun z=>e (jy z)),vB]
   congr 1
   simp[M3 e]
 | [],_::_,h'=>h'.elim
 | _::_,[],h'=>h'.elim
theorem QE.keep {H:Hp}{k:List Int}{v:V}:∀{T:P2}{kvs:List (List V0 × V)},QE H T kvs->¬ k∈T.map (·.1)->kvs.map (fun kv=>if kv.1=kI k then (kv.1,v) else kv)=kvs
 | [],[],_,_=>rfl
 | p::T,kv::kvs,⟨a,_,c⟩,h=>by
  obtain ⟨kk,x⟩:=kv
  have a:kk=kI p.1:=a
  subst a
  rw[B9,C1,not_or] at h
  show (if kI p.1=kI k then (kI p.1,v) else (kI p.1,x))::kvs.map _=(kI p.1,x)::kvs
  rw[if_neg (fun z=>h.1 (jy z).symm),QE.keep c h.2]
 | [],_::_,h',_=>h'.elim
 | _::_,[],h',_=>h'.elim
theorem QE.snoc {H:Hp}{k:List Int}{x:Rat}{v:V} (hv:oH H x v):∀{T:P2}{kvs:List (List V0 × V)},QE H T kvs->QE H (T++[(k,x)]) (kvs++[(kI k,v)])
 | [],[],_=>⟨rfl,hv,trivial⟩
 | p::T,kv::kvs,⟨a,b,c⟩=>⟨a,b,QE.snoc hv c⟩
 | [],_::_,h'=>h'.elim
 | _::_,[],h'=>h'.elim
theorem yE {k:List Int}{x:Rat}:∀(D:P2),¬ k∈D.map (·.1)->cg D k x=D++[(k,x)]
 | [],_=>rfl
 | p::D,h=>by
  rw[B9,C1,not_or] at h
  unfold cg
  rw[if_neg (M3 h.1),yE D h.2];rfl
theorem xw {k:List Int}:∀(D:P2),¬ k∈D.map (·.1)->eO D k=0
 | [],_=>rfl
 | p::D,h=>by
  rw[B9,C1,not_or] at h
  unfold eO
  rw[if_neg (M3 h.1),xw D h.2]
theorem QE.put {H:Hp}{k:List Int}{v:V}:∀{T:P2}{kvs:List (List V0 × V)},QE H T kvs->qK T->oH H (eO T k+x) v->QE H (cg T k x) (iZ kvs (kI k) v):=by
 intro T kvs q nd hv
 unfold iZ
 rw[q.any]
 by_cases hk:k∈T.map (·.1)
 ·rw[decide_eq_true hk,if_pos rfl]
  induction T generalizing kvs with
  | nil=>simp at hk
  | cons p T ih =>
   cases kvs with
   | nil=>exact q.elim
   | cons kv kvs =>
    obtain ⟨a,b,c⟩:=q
    obtain ⟨kk,y⟩:=kv
    have a:kk=kI p.1:=a
    subst a
    unfold qK at nd
    rw[B9,aH] at nd
    unfold cg
    by_cases e:p.1=k
    ·rw[if_pos e]
     show QE H _ ((if kI p.1=kI k then _ else _)::kvs.map _)
     rw[if_pos (by rw[e]),c.keep (by rw[<- e];exact nd.1)]
     unfold eO at hv
     rw[if_pos e] at hv
     exact ⟨rfl,hv,c⟩
    ·rw[if_neg e]
     show QE H _ ((if kI p.1=kI k then _ else _)::kvs.map _)
     rw[if_neg (fun z=>e (jy z))]
     unfold eO at hv
     rw[if_neg e] at hv
     have hk':k∈T.map (·.1):=by
      rw[B9,C1] at hk
      exact hk.resolve_left (M3 e)
     exact ⟨rfl,b,ih c nd.2 hv hk'⟩
 ·rw[decide_eq_false hk,if_neg (by decide),yE T hk]
  rw[xw T hk] at hv
  refine QE.snoc ?_ q
  rw[show (0:Rat)+x=x by grind] at hv
  exact hv
noncomputable def Y2 (x:Rat) (s:Int):List (Int × List Int)->P2->P2
 | [],D=>D
 | b::bs,D=>Y2 x s bs (cg D b.2 (x*cut b.1 s))
theorem nP (x:Rat) (s:Int) (b:Int × List Int):∀(bs:List (Int × List Int)) (D:P2),Y2 x s (bs++[b]) D=cg (Y2 x s bs D) b.2 (x*cut b.1 s)
 | [],D=>rfl
 | c::bs,D=>by
  show Y2 x s (bs++[b]) (cg D c.2 (x*cut c.1 s))=_
  rw[nP x s b bs];rfl
theorem qu (x:Rat) (s:Int) (φ:List Int->Rat):∀(bs:List (Int × List Int)) (D:P2),ir (Y2 x s bs D) φ=ir D φ+x*cz (bs.map fun b=>cut b.1 s*φ b.2)
 | [],D=>by show _=_+x*0;unfold Y2;grind
 | b::bs,D=>by
  unfold Y2
  rw[qu x s φ bs,ux,B9]
  show _=_+x*(cut b.1 s*φ b.2+cz _)
  grind
structure Vq (N B:Nat) (x:Rat):Prop where
 nn:0<=x
 le:x<=(B:Rat)
 dv:∃z:Int,x*(N:Rat)=(z:Rat)
variable {N B:Nat}
theorem Vq.mono {C:Nat}(h:Vq N B x) (l:B<=C):Vq N C x:=⟨h.nn,by
 have:((B:Nat):Rat)<=((C:Nat):Rat):=by exact_mod_cast l
 have:=h.le
 grind,h.dv⟩
theorem Vq.zero (N B:Nat):Vq N B 0:=⟨by grind,by exact_mod_cast u9 B,0,by grind⟩
variable {y:Rat}
theorem Vq.add {C:Nat}(h:Vq N B x) (k:Vq N C y):Vq N (B+C) (x+y):=by
 obtain ⟨z,hz⟩:=h.dv
 obtain ⟨t,ht⟩:=k.dv
 have h1:=h.nn;have h2:=h.le;have k1:=k.nn;have k2:=k.le
 refine ⟨by grind,?_,z+t,?_⟩
 ·have:((B+C:Nat):Rat)=(B:Rat)+(C:Rat):=by push_cast;rfl
  grind
 ·have:((z+t:Int):Rat)=(z:Rat)+(t:Rat):=by push_cast;rfl
  grind
noncomputable def LL:Nat:=(D4 200).foldl (fun a i=>aV a (i+1)) 1
theorem kA {t s:Int} (hs:0<s):cut t s*(s:Rat)=(t:Rat):=by
 unfold cut
 have e:(((s.toNat:Nat):Int):Rat)=(s:Rat):=by congr 1;lia
 rw[Rat.mkRat_eq_div,<- e]
 have h:((s.toNat:Nat):Rat)≠0:=by
  intro z
  have:s.toNat=0:=by exact_mod_cast z
  lia
 have e2:(((s.toNat:Nat):Int):Rat)=((s.toNat:Nat):Rat):=by norm_cast
 rw[e2]
 exact Rat.div_mul_cancel h
theorem qi {s:Rat} (hs:0<s) (h:x*s<=y*s):x<=y:=Rat.le_of_mul_le_mul_right h hs
theorem zh {s:Rat} (hs:0<s) (h:x*s=y*s):x=y:=by
 have h1:=qi hs (show x*s<=y*s by grind)
 have h2:=qi hs (show y*s<=x*s by grind)
 grind
theorem CH {s:Int} (hs:0<s):(0:Rat)<(s:Rat):=by exact_mod_cast hs
theorem Vq.bd {n:Nat}(h:Vq N B x) (h0:0<N) (h1:N*B<=2 ^ n) (h2:N<=2 ^ n):Bd n x:=by
 obtain ⟨z,hz⟩:=h.dv
 have hp:(0:Int)<(N:Int):=by lia
 have hm:=kA (t:=z) hp
 have e:(((N:Nat):Int):Rat)=(N:Rat):=by norm_cast
 rw[e] at hm
 have hq:(0:Rat)<(N:Rat):=by rw[<- e];exact CH hp
 have ex:x=cut z N:=zh hq (by rw[hz,hm])
 have l0:(0:Rat)<=(z:Rat):=by rw[<- hz];exact Rat.mul_nonneg h.nn (by grind)
 have l1:(z:Rat)<=((B*N:Nat):Rat):=by
  have e2:((B*N:Nat):Rat)=(B:Rat)*(N:Rat):=by push_cast;rfl
  rw[<- hz,e2]
  exact Rat.mul_le_mul_of_nonneg_right h.le (by grind)
 have m0:0<=z:=by exact_mod_cast l0
 have m1:z<=((B*N:Nat):Int):=by exact_mod_cast l1
 rw[ex]
 rw[L8] at h1
 exact Bd.cut hp (by lia) (by lia)
theorem BZ:∀{l:List Int},(∀x∈l,0<=x)->∀x∈l,x<=l.sum
 | [],_,x,h=>by simp at h
 | a::l,h,x,hx=>by
  have h1:=h a i4
  have h2:=de fun y hy=>h y (f7 _ hy)
  rw[K5]
  rcases List.mem_cons.mp hx with e|e
  ·lia
  ·have:=BZ (fun y hy=>h y (f7 _ hy)) x e
   lia
theorem aB {n m:Nat}{u:List Int} (h:mv n m u) (k:Nat):u.getD k 0<=u.sum:=by
 rw[j6]
 cases e:u[k]? with
 | none=>have:=h.pos;show (0:Int)<=_;lia
 | some x=>exact BZ (fun x hx=>(h.nn x hx).1) x (B0 e)
theorem rq {N B:Nat}:∀{xs:List Rat},(∀x∈xs,Vq N B x)->Vq N (B*xs.length) (cz xs)
 | [],_=>Vq.zero N _
 | x::xs,h=>by
  have h1:=rq fun y hy=>h y (f7 _ hy)
  have h2:=(h x i4).add h1
  exact h2.mono (by rw[r6,fV];lia)
end Mq
namespace L2
open PySem PySem.Spec PyProof.Rows
theorem JQ {x y:Int} (h:x.natAbs.log2<13470):Builtin.divisionGoesByPylong x y=false:=by
 have hx:(if (x == 0)=true then 0 else x.natAbs.log2 / 30+1)<=450:=by
  split
  ·lia
  ·have:x.natAbs.log2 / 30<449:=Nat.div_lt_of_lt_mul (by lia)
   lia
 show (decide ((if (y == 0)=true then 0 else y.natAbs.log2 / 30+1) > 300)&&decide ((if (x == 0)=true then 0 else x.natAbs.log2 / 30+1) > (if (y == 0)=true then 0 else y.natAbs.log2 / 30+1)+150))=false
 generalize (if (x == 0)=true then 0 else x.natAbs.log2 / 30+1)=a at hx
 generalize (if (y == 0)=true then 0 else y.natAbs.log2 / 30+1)=b
 by_cases hb:b > 300
 ·rw[decide_eq_false (p:=a > b+150) (by lia),bJ]
 ·rw[decide_eq_false hb,F8]
section
variable {X:Cx}
theorem jW:gK X (R1 .FloorDiv) (rI (fun i j=>0<j/\i.natAbs.log2<13470) fun i j=>.int (i / j)):=IH fun i j _ _ _ _ _ hc q =>
 floordiv_int (by have:=hc.1;lia) (by rw[tH i (by have:=hc.1;lia)];exact q) (.inl (JQ hc.2))
end
theorem xY {i:Int} (h:i.natAbs<=2 ^ 13400):i.natAbs.log2<13470:=by
 by_cases h0:i.natAbs=0
 ·rw[h0];show Nat.log2 0<_;rw[Nat.log2_zero];lia
 ·rw[Nat.log2_lt h0]
  exact X7 h (Am (by decide) (by lia))
end L2
namespace Mq
open PySem PySem.Spec L2 Mt Md
noncomputable def dd {α:Type} [DecidableEq α]:List α->List α
 | []=>[]
 | a::l=>if a∈dd l then dd l else a::dd l
theorem BV {α:Type} [DecidableEq α]:∀{l m:List α},l.Nodup->(∀a∈l,a∈m)->l.length<=m.length
 | [],m,_,_=>u9 _
 | a::l,m,hn,h=>by
  rw[aH] at hn
  have ha:=h a i4
  have ih:=BV (l:=l) (m:=m.erase a) hn.2 fun b hb=>by
   have:b≠a:=fun e=>hn.1 (e ▸ hb)
   exact (List.mem_erase_of_ne this).mpr (h b (f7 _ hb))
  have:=List.length_erase_of_mem ha
  have hp:0<m.length:=List.length_pos_of_mem ha
  rw[r6];lia
set_option maxHeartbeats 1000000
noncomputable def pG (g c:List Int) (i:Nat):List Nat:=(D4 i).filter fun j=>decide (c.getD j 0<g.getD j 0)
noncomputable def kN (u:List Int) (rs:List (List Int)) (g c:List Int) (i:Nat):List (Int × List Int):=(pG g c i).map fun j=>((N8 u rs c).getD j 0,inc c j)
noncomputable def O1 (u:List Int) (rs:List (List Int)) (g:List Int):P2->P2->P2
 | [],D=>D
 | p::T,D=>O1 u rs g T (Y2 p.2 (N8 u rs p.1).sum (kN u rs g p.1 u.length) D)
noncomputable def pL (u:List Int) (rs:List (List Int)) (g:List Int):Nat->P2
 | 0=>[(m6 u.length 0,1)]
 | k+1=>O1 u rs g (pL u rs g k) []
theorem lQ (u:List Int) (rs:List (List Int)) (g:List Int) (p:List Int × Rat):∀(T D:P2),O1 u rs g (T++[p]) D=Y2 p.2 (N8 u rs p.1).sum (kN u rs g p.1 u.length) (O1 u rs g T D)
 | [],D=>rfl
 | q::T,D=>by
  show O1 u rs g (T++[p]) _=Y2 _ _ _ (O1 u rs g T _)
  exact lQ u rs g p T _
theorem zA (g c:List Int) (i:Nat):pG g c (i+1)=if c.getD i 0<g.getD i 0 then pG g c i++[i] else pG g c i:=by
 unfold pG
 rw[iW,List.filter_append]
 by_cases h:c.getD i 0<g.getD i 0
 ·rw[if_pos h,Fk,if_pos (decide_eq_true h)];rfl
 ·rw[if_neg h,Fk,if_neg (by rw[decide_eq_false h];decide)];simp
theorem oA (u:List Int) (rs:List (List Int)) (g c:List Int) (i:Nat):kN u rs g c (i+1)=if c.getD i 0<g.getD i 0 then kN u rs g c i++[((N8 u rs c).getD i 0,inc c i)] else kN u rs g c i:=by
 unfold kN
 rw[zA]
 split
 ·rw[n9];rfl
 ·rfl
theorem Ce (g c:List Int) (i:Nat):(pG g c i).length<=i:=by
 unfold pG
 exact m8 (List.length_filter_le _ _) (by rw[Q7];exact i9 _)
theorem sQ (u:List Int) (rs:List (List Int)) (g c:List Int) (i:Nat):(kN u rs g c i).length<=i:=by
 unfold kN;rw[b9];exact Ce g c i
structure Cn (u:List Int) (rs:List (List Int)) (n k:Nat) (c:List Int):Prop where
 len:c.length=n
 nn:∀x∈c,0<=x/\x<=(k:Int)
 urn:mv n (20+5*k) (N8 u rs c)
theorem EL (c:List Int) (j:Nat):(inc c j).length=c.length:=by unfold inc;rw[T6]
variable {c:List Int}
theorem qz {j:Nat} (h:j<c.length):c.getD j 0∈c:=by
 rw[j6,d9 h];exact F7 h
theorem Cn.inc {u:List Int}{rs:List (List Int)}{n k j:Nat}{c:List Int} (hu:u.length=n) (hR:ma n 5 rs) (h:Cn u rs n k c) (hj:j<n):Cn u rs n (k+1) (Md.inc c j):=by
 refine ⟨by rw[EL];exact h.len,fun x hx=>?_,?_⟩
 ·have hm:=h.nn _ (qz (show j<c.length by rw[h.len];exact hj))
  unfold Md.inc at hx
  rcases av hx with hx|hx
  ·have:=h.nn x hx;lia
  ·rw[hx];lia
 ·rw[sT hu h.len hR hj,show 20+5*(k+1)=20+5*k+5 by lia]
  exact h.urn.add (hR.at hj)
variable {u:List Int}{rs:List (List Int)}{n:Nat}
theorem Cn.zero (h:mv n 20 u):Cn u rs n 0 (m6 u.length 0):=by
 refine ⟨by rw[J7];exact h.len,fun x hx=>?_,?_⟩
 ·rw[aF hx];lia
 ·rw[ve];exact h
noncomputable def KC (u:List Int) (rs:List (List Int)) (n k:Nat) (T:P2):Prop:=∀p∈T,Cn u rs n k p.1
theorem KC.add {k:Nat}{D:P2}{x:Rat} (h:KC u rs n k D) (hk:Cn u rs n k c):KC u rs n k (cg D c x):=fun p hp=>by
 rcases ly hp with e|⟨q,hq,e⟩
 ·rw[e];exact hk
 ·rw[<- e];exact h q hq
theorem mM {g:List Int}{i:Nat}{b:Int × List Int} (h:b∈kN u rs g c i):∃j,j<i/\b=((N8 u rs c).getD j 0,inc c j):=by
 unfold kN at h
 obtain ⟨j,hj,e⟩:=List.mem_map.mp h
 unfold pG at hj
 exact ⟨j,List.mem_range.mp (List.mem_filter.mp hj).1,e.symm⟩
theorem CG {g:List Int}{k i:Nat}(hu:u.length=n) (hR:ma n 5 rs) (h:Cn u rs n k c) (hi:i<=n):∀b∈kN u rs g c i,(0<=b.1/\b.1<=(N8 u rs c).sum)/\Cn u rs n (k+1) b.2:=fun b hb=>by
 obtain ⟨j,hj,e⟩:=mM hb
 rw[e]
 exact ⟨⟨(h.urn.getD j).1,aB h.urn j⟩,h.inc hu hR (by lia)⟩
noncomputable def II (u:List Int) (rs:List (List Int)) (g:List Int) (φ:List Int->Rat) (c:List Int):Rat:=cz ((kN u rs g c u.length).map fun b=>cut b.1 (N8 u rs c).sum*φ b.2)
theorem lS (u:List Int) (rs:List (List Int)) (g:List Int) (φ:List Int->Rat):∀(T D:P2),ir (O1 u rs g T D) φ=ir D φ+ir T (II u rs g φ)
 | [],D=>by unfold O1;show _=_+0;grind
 | p::T,D=>by
  unfold O1
  rw[lS u rs g φ T,qu,bF]
  unfold II
  grind
theorem ED (u:List Int) (rs:List (List Int)) (g:List Int) (φ:List Int->Rat) (k:Nat):ir (pL u rs g (k+1)) φ=ir (pL u rs g k) (II u rs g φ):=by
 show ir (O1 u rs g (pL u rs g k) []) φ=_
 rw[lS]
 show 0+_=_
 grind
noncomputable def cntD (n:Nat) (ds:List Nat):List Int:=(D4 n).map fun j=>((ds.count j:Nat):Int)
structure DrOk (u:List Int) (rs:List (List Int)) (n k:Nat) (e:List Nat × List Int × Rat):Prop where
 len:e.1.length=k
 lt:∀j∈e.1,j<n
 urn:e.2.1=N8 u rs (cntD n e.1)
 ok:mv n (20+5*k) e.2.1
 vq:Vq (LL ^ k) 1 e.2.2
end Mq
set_option maxHeartbeats 4000000
namespace G
open PySem PySem.Spec PyProof.Rows L2 Mt Md Mq
structure Ct2 (mg:Str->Option d6):Prop where
 stand:∃t,mg "MOST_STAND_DRAWS"=some (.int 6 t)
structure Bt3 (mg:Str->Option d6):Prop where
 enumerate:mg "enumerate"=none
 sorted:mg "sorted"=none
theorem Jp {k:Int} (h1:1<=k) (h4:k<=4):Sm k:=by
 have h:k=1 ∨ k=2 ∨ k=3 ∨ k=4:=by lia
 rcases h with rfl|rfl|rfl|rfl <;> (unfold Sm;decide +kernel)
theorem pV {m:Int}{d:A2} (h:dY m d=true):∃ns:List Int,d=DI ns/\1<=ns.length/\ns.length<=4/\(∀x∈ns,0<=x/\x<=m)/\0<ns.sum:=by
 unfold dY at h
 rw[A6,A6,A6] at h
 obtain ⟨hw,⟨h1,h4⟩,hs⟩:=h
 obtain ⟨ns,e,hn⟩:=aK hw
 subst e
 rw[V9] at h1 h4
 rw[mG] at hs
 have h1':=of_decide_eq_true h1
 have h4':=of_decide_eq_true h4
 exact ⟨ns,rfl,by lia,by lia,hn,of_decide_eq_true hs⟩
theorem U1 {i:Int}{n:Nat} (h:i.natAbs<=2 ^ n) (hn:n<=100000):A9 i<=2 ^ 20:=by
 unfold A9
 split
 ·exact u9 _
 ·rename_i hz
  have hz':i.natAbs≠0:=fun e=>hz (by rw[beq_iff_eq];lia)
  have h2:i.natAbs.log2<n+1:=(Nat.log2_lt hz').mpr (X7 h (Am (by decide) (by lia)))
  lia
theorem uI {x y:Int} (hx:0<=x) (hy:0<y):R8 y (x % y)=R8 x y:=by
 have h1:(x % y).natAbs=x.natAbs % y.natAbs:=by
  rw[Int.natAbs_emod_of_nonneg hx]
 unfold R8
 rw[h1,Lc x.natAbs,Nat.gcd_rec y.natAbs x.natAbs,Lc]
theorem CB {t b:Int} (ht:0<=t) (hb:0<b):0<=(cut t b).num:=by
 rw[sN hb];exact IC ht (by lia)
theorem mv.sum_le {n m:Nat}{ns:List Int} (h:Mt.mv n m ns) (hn:n<=4):ns.sum<=(m:Int)*4:=by
 have:=Mt.sum_le (m:=(m:Int)) (l:=ns) fun x hx=>(h.nn x hx).2
 rw[h.len] at this
 refine Lf this (cZ (by lia) (by lia))
mutual
theorem CW {l T:Addr}{H:Hp}{ps:List (List V0 × V)} (hT:H T=some (.dT ps)):∀{d:A2}{v:V},Dt l H d v->Dt T H d v
 | .none,_,h=>by unfold Dt at h ⊢;exact h
 | .bool _,_,h=>by unfold Dt at h ⊢;exact h
 | .int _,_,h=>by unfold Dt at h ⊢;exact h
 | .str _,_,h=>by unfold Dt at h ⊢;exact h
 | .tuple ds,_,h=>by
  unfold Dt at h ⊢
  obtain ⟨a,xs,e,n,q,r⟩:=h
  exact ⟨a,xs,e,(fun z=>by rw[z,hT] at q;cases q),q,sU hT r⟩
 | .list ds,_,h=>by
  unfold Dt at h ⊢
  obtain ⟨a,xs,e,n,q,r⟩:=h
  exact ⟨a,xs,e,(fun z=>by rw[z,hT] at q;cases q),q,sU hT r⟩
 | .dict kvs,_,h=>by
  unfold Dt at h ⊢
  obtain ⟨z,a,e,n,q⟩:=h
  exact ⟨z,a,e,(fun z=>by rw[z,hT] at q;cases q),q⟩
theorem sU {l T:Addr}{H:Hp}{ps:List (List V0 × V)} (hT:H T=some (.dT ps)):∀{ds:List A2}{xs:List V},P3 l H ds xs->P3 T H ds xs
 | [],_,h=>by unfold P3 at h ⊢;exact h
 | d::ds,_,h=>by
  unfold P3 at h ⊢
  obtain ⟨x,r,e,q1,q2⟩:=h
  exact ⟨x,r,e,CW hT q1,sU hT q2⟩
end
theorem zb {n:Nat} (h:n<=10000):n<i7:=by rw[S6];lia
section
variable {P:j9}{w:t9}{K:m9}{mg:Str->Option d6}{base:Heap}{f:Addr}{fd:C4}{ec:Nat->Addr}{Bs:Addr}
noncomputable def gU (ec:Nat->Addr):Sp:=fun vs H Q E=>∃(v:V) (st:Addr) (d:A2),vs=[v]/\Dt st H d v/\aN d/\(dY 20 d=true->∀H',j7 H H'->Q .non H')/\(dY 20 d=false->∀H',j7 H H'->E (.ref (ec 0)) none H')
noncomputable abbrev js:Stmt:=eI 29
theorem tT:C3 ["thing"] ["thing"] (v9 js):=⟨rfl,rfl,rfl,by decide +kernel,rfl,by decide +kernel,by decide +kernel⟩
theorem uh (F:aY K "need_urn" "need_urn" js f fd) (R:xk K mg ec Bs) (c1:S2 P w K mg base 4 "is_urn" ["thing"] cU):M0 P w K mg base (jG P w) 5 f fd ["thing"] (gU ec):=by
 refine F.okX tT (fun vs H Q E h=>?_) (fun cdv A outer s H vs Q E hr h=>?_)
 ·obtain ⟨v,st,d,rfl,_⟩:=h
  rfl
 obtain ⟨v,st,d,rfl,hd,hs,q1,q2⟩:=h
 refine ⟨_,v5 (R0 (Y3 (V5 (B8 c1 hr rfl (b7 (pv 0) d8)))) (v5 (iI R.e0 (R.xc 0 (by decide)) ie (fun σ H Q Q' m q=>m _ _ q))) F6),?_⟩
 refine ⟨_,rfl,v,st,d,rfl,hd,hs,fun H1 g1=>⟨_,rfl,?_⟩⟩
 cases hw:dY 20 d with
 | true=>exact Q3 (q1 hw H1 g1)
 | false=>exact P8 (q2 hw H1 g1)
noncomputable def fq (ec:Nat->Addr):Sp:=fun vs H Q E=>∃(v:V) (st:Addr) (d:A2) (k:Int),vs=[.int k,v]/\1<=k/\k<=4/\Dt st H d v/\Ad d/\(dU k d=true->∀H',j7 H H'->Q .non H')/\(dU k d=false->∀H',j7 H H'->E (.ref (ec 1)) none H')
noncomputable abbrev hJ:Stmt:=eI 30
theorem rC:C3 ["kinds","thing"] ["kinds","thing"] (v9 hJ):=⟨rfl,rfl,rfl,by decide +kernel,rfl,by decide +kernel,by decide +kernel⟩
theorem sm (F:aY K "need_rule" "need_rule" hJ f fd) (R:xk K mg ec Bs) (c1:eZ P w K mg base 3 "is_rule" ["kinds","thing"] (jq ec)):M0 P w K mg base (jG P w) 4 f fd ["kinds","thing"] (fq ec):=by
 refine F.okX rC (fun vs H Q E h=>?_) (fun cdv A outer s H vs Q E hr h=>?_)
 ·obtain ⟨v,st,d,k,rfl,_⟩:=h
  rfl
 obtain ⟨v,st,d,k,rfl,k1,k4,hd,ok,q1,q2⟩:=h
 refine ⟨_,v5 (R0 (Y3 (V5 (aj c1 hr rfl iK (b7 (pv 0) (b7 (pv 1) d8))))) (v5 (iI R.e1 (R.xc 1 (by decide)) (xO (rS (wu (pv 0) (rS Bp)))) (fun σ H Q Q' m q=>?_))) F6),?_⟩
 ·obtain ⟨v1,z1,i1,z2,z3,z4,z5⟩:=q
  exact ⟨v1,z1,i1,z2,z3,z4,fun z=>m _ _ (z5 z)⟩
 refine ⟨_,rfl,_,rfl,.int k,v,st,.int k,d,rfl,Dt.int _ _ _,(fun hw=>?_),fun k' e _ _=>?_⟩
 ·have hw':(decide ((1:Int)<=k)&&decide (k<=4))=false:=hw
  rw[decide_eq_true k1,decide_eq_true k4] at hw'
  cases hw'
 cases e
 refine ⟨hd,ok.1,ok.2,fun H1 g1=>⟨_,rfl,?_⟩⟩
 cases hw:dU k d with
 | true=>exact Q3 (q1 hw H1 g1)
 | false=>exact P8 ⟨_,rfl,k,rfl,(Jp k1 k4).1,(Jp k1 k4).2,fun z=>q2 hw H1 g1⟩
noncomputable def vV (ec:Nat->Addr):Sp:=fun vs H Q E=>∃(u v:V) (st:Addr) (d e:A2),vs=[u,v]/\Dt st H d u/\aN d/\Dt st H e v/\Ad e/\(dY 20 d=false->∀H',j7 H H'->E (.ref (ec 0)) none H') /\
 (dY 20 d=true->dU (bZ d) e=false->∀H',j7 H H'->E (.ref (ec 1)) none H')/\(dY 20 d=true->dU (bZ d) e=true->∀H',j7 H H'->Q .non H')
noncomputable abbrev AY:Stmt:=eI 31
theorem Gz:C3 ["urn","rule"] ["urn","rule"] (v9 AY):=⟨rfl,rfl,rfl,by decide +kernel,rfl,by decide +kernel,by decide +kernel⟩
theorem Hr (F:aY K "need_urn_and_rule" "need_urn_and_rule" AY f fd) (B:Bt mg) (c1:eZ P w K mg base 5 "need_urn" ["thing"] (gU ec)) (c2:eZ P w K mg base 4 "need_rule" ["kinds","thing"] (fq ec)):M0 P w K mg base (jG P w) 6 f fd ["urn","rule"] (vV ec):=by
 refine F.okX Gz (fun vs H Q E h=>?_) (fun cdv A outer s H vs Q E hr h=>?_)
 ·obtain ⟨u,v,st,d,e,rfl,_⟩:=h
  rfl
 obtain ⟨u,v,st,d,e,rfl,hu,hus,hv,hvo,q0,q1,q2⟩:=h
 refine ⟨_,n5 (iJ (aj c1 hr rfl iK (b7 (pv 0) d8))) (v5 (iJ (aj (c2.up (by decide)) hr rfl iK (b7 (t7 B7 rfl B.len A5 (b7 (pv 0) d8)) (b7 (pv 1) d8))))),?_⟩
 refine ⟨_,rfl,u,st,d,rfl,hu,hus,fun hw H1 g1=>?_,q0⟩
 obtain ⟨ns,e1,l1,l4,_⟩:=pV hw
 subst e1
 obtain ⟨a,e2,_,ha⟩:=hu.di
 subst e2
 have q1':=q1 hw
 have q2':=q2 hw
 rw[V9] at q1' q2'
 refine ⟨_,rfl,a,_,rfl,.inr (.of (g1 _ _ ha)),_,rfl,v,st,e,(ns.length:Int),?_,by lia,by lia,hv.kp (g1.kp st),hvo,fun hr2 H2 g2=>q2' hr2 H2 (g1.trans g2),fun hr2 H2 g2=>q1' hr2 H2 (g1.trans g2)⟩
 rw[b9]
noncomputable def AI:Sp:=fun vs H Q _=>∃x y:Int,vs=[.int x,.int y]/\0<=x/\0<=y/\Q (.int (R8 x y:Nat)) H
noncomputable abbrev GD:Stmt:=eI 17
theorem Fw:C3 ["one","other"] ["one","other"] (v9 GD):=⟨rfl,rfl,rfl,by decide +kernel,rfl,by decide +kernel,by decide +kernel⟩
theorem JL (F:aY K "greatest_divisor" "greatest_divisor" GD f fd) (B:Bt mg):M0 P w K mg base cH 1 f fd ["one","other"] AI:=by
 refine F.ok Fw (fun vs H Q E h=>?_) (fun cdv A outer s H vs Q E hr h=>?_)
 ·obtain ⟨x,y,rfl,_⟩:=h
  rfl
 obtain ⟨x,y,rfl,hx,hy,q⟩:=h
 refine ⟨_,n5 (uc K1 (N6 jg (pv 1) j8 (M5 _)) (v5 (rR (i:=0) (j:=1) rfl Fw.nd rfl rfl (by decide) rfl rfl (b7 (pv 1) (b7 (A7 fK (pv 0) (pv 1)) d8)) rfl)))
  (v5 (C7 (t7 va rfl B.abs boot_abs (b7 (pv 0) d8)))),?_⟩
 refine ⟨fun m σ H2=>H2=H/\∃x' y':Int,0<=x'/\0<=y'/\σ=[some (.int x'),some (.int y')]/\m=y'.toNat/\R8 x' y'=R8 x y,⟨_,rfl,x,y,hx,hy,rfl,rfl,rfl⟩,?_⟩
 rintro m σ H2 ⟨rfl,x',y',h1,h2,rfl,rfl,e⟩
 refine ⟨_,rfl,rfl,_,rfl,?_⟩
 by_cases hz:y'=0
 ·subst hz
  rw[decide_eq_true rfl]
  refine Q3 ⟨_,rfl,x',rfl,?_⟩
  have e2:(if x'<0 then -x' else x')=((R8 x y:Nat):Int):=by
   rw[<- e,DV]
   split <;> lia
  rw[e2];exact q
 ·rw[decide_eq_false (show ¬ V.int y'=V.int 0 from fun z=>hz (by injection z))]
  refine P8 ⟨fun σ' H'=>H'=H2/\∃a b:Int,0<=a/\0<=b/\σ'=[some (.int a),some (.int b)]/\b.toNat<y'.toNat/\R8 a b=R8 x y,?_,?_⟩
  ·rintro σ' H' ⟨rfl,a,b,ha,hb,rfl,hlt,e2⟩
   exact ⟨_,hlt,rfl,a,b,ha,hb,rfl,rfl,e2⟩
  ·have hm:=aX x' (show y'≠0 from hz)
   have hm2:=X9 x' (show 0<y' by lia)
   refine ⟨_,rfl,_,rfl,_,rfl,_,_,rfl,rfl,(by lia),_,_,rfl,?_⟩
   exact ⟨rfl,y',x' % y',h2,hm,rfl,by lia,by rw[uI h1 (by lia)];exact e⟩
noncomputable def bW:Sp:=fun vs H Q _=>∃t b:Int,vs=[.int t,.int b]/\0<=t/\0<b/\t.natAbs<=2 ^ 13400/\b.natAbs<=2 ^ 13400/\∀p H',j7 H H'->H' p=some (.tup ((fr (cut t b)).map V.int))->Q (.ref p) H'
noncomputable abbrev jv:Stmt:=eI 18
theorem lP:C3 ["top","bottom","divisor"] ["top","bottom"] (v9 jv):=⟨rfl,rfl,rfl,by decide +kernel,rfl,by decide +kernel,by decide +kernel⟩
theorem FJ {t b:Int} (hb:0<b):0<((R8 t b:Nat):Int):=by
 have h0:0<R8 t b:=Int.gcd_pos_of_ne_zero_right _ (by lia)
 lia
theorem uk (F:aY K "fraction" "fraction" jv f fd) (c1:S2 P w K mg base 1 "greatest_divisor" ["one","other"] AI):M0 P w K mg base cH 2 f fd ["top","bottom"] bW:=by
 refine F.ok lP (fun vs H Q E h=>?_) (fun cdv A outer s H vs Q E hr h=>?_)
 ·obtain ⟨x,y,rfl,_⟩:=h
  rfl
 obtain ⟨t,b,rfl,ht,hb,hlt,hlb,q⟩:=h
 refine ⟨_,n5 (D6 (i:=2) lP.nd rfl (B5 rfl) (B8 c1 hr rfl (b7 (pv 0) (b7 (pv 1) d8))))
  (v5 (C7 (D0 (b7 (A7 jW (pv 0) (pv 2)) (b7 (A7 jW (pv 1) (pv 2)) d8))))),?_⟩
 have g:=FJ (t:=t) hb
 refine ⟨_,rfl,_,rfl,t,b,rfl,ht,by lia,?_⟩
 refine ⟨_,rfl,_,rfl,_,_,rfl,rfl,⟨g,xY hlt⟩,_,rfl,_,rfl,_,_,rfl,rfl,⟨g,xY hlb⟩,(by show 2<=i7;decide),fun p hp=>?_⟩
 refine q p _ (j7.new hp) ?_
 rw[f6,Cr hb];rfl
noncomputable def eQ:Sp:=fun vs H Q _=>∃(p q:Addr) (x y:Rat) (n m:Nat),vs=[.ref p,.ref q]/\H p=some (.tup ((fr x).map V.int))/\H q=some (.tup ((fr y).map V.int))/\0<=x.num/\0<=y.num/\Bd n x/\Bd m y/\n+m<=13000 /\
 ∀r H',j7 H H'->H' r=some (.tup ((fr (x*y)).map V.int))->Q (.ref r) H'
noncomputable abbrev rH:Stmt:=eI 20
theorem AQ:C3 ["one","other"] ["one","other"] (v9 rH):=⟨rfl,rfl,rfl,by decide +kernel,rfl,by decide +kernel,by decide +kernel⟩
theorem BF (F:aY K "times" "times" rH f fd) (c1:S2 P w K mg base 2 "fraction" ["top","bottom"] bW):M0 P w K mg base cH 3 f fd ["one","other"] eQ:=by
 refine F.ok AQ (fun vs H Q E h=>?_) (fun cdv A outer s H vs Q E hr h=>?_)
 ·obtain ⟨p,q,x,y,n,m,rfl,_⟩:=h
  rfl
 obtain ⟨p,q,x,y,n,m,rfl,hp,hq,x0,y0,bx,by',hnm,k⟩:=h
 refine ⟨_,v5 (C7 (B8 c1 hr rfl (b7 (A7 bL (G1 N2 (pv 0) j8 (fun _ _=>rfl)) (G1 N2 (pv 1) j8 (fun _ _=>rfl))) (b7 (A7 bL (G1 N2 (pv 0) j8 (fun _ _=>rfl)) (G1 N2 (pv 1) j8 (fun _ _=>rfl))) d8)))),?_⟩
 have hp':H p=some (.tup [.int x.num,.int x.den]):=hp
 have hq':H q=some (.tup [.int y.num,.int y.den]):=hq
 have b1:A9 x.num<=2 ^ 20:=U1 bx.num (by lia)
 have b2:A9 y.num<=2 ^ 20:=U1 by'.num (by lia)
 have b3:A9 (x.den:Int)<=2 ^ 20:=U1 (by rw[P1];exact bx.den) (by lia)
 have b4:A9 (y.den:Int)<=2 ^ 20:=U1 (by rw[P1];exact by'.den) (by lia)
 refine ⟨_,rfl,p,_,_,_,rfl,rfl,.of hp',C8 (j:=0) rfl,_,rfl,q,_,_,_,rfl,rfl,.of hq',C8 (j:=0) rfl,_,_,rfl,rfl,⟨b1,b2⟩,
  _,rfl,p,_,_,_,rfl,rfl,.of hp',C8 (j:=1) rfl,_,rfl,q,_,_,_,rfl,rfl,.of hq',C8 (j:=1) rfl,_,_,rfl,rfl,⟨b3,b4⟩,_,_,rfl,bU x0 y0,?_,?_,?_,?_⟩
 ·have h1:=x.den_nz;have h2:=y.den_nz
  have:=af (N4 h1) (N4 h2)
  rw[<- aW];lia
 ·rw[Q0]
  refine m8 (D5 bx.num by'.num) ?_
  rw[<- R9]
  exact w5 (by decide) (by lia)
 ·rw[Q0]
  refine m8 (D5 bx.den by'.den) ?_
  rw[<- R9]
  exact w5 (by decide) (by lia)
 ·rw[yu];exact k
noncomputable def iG:Sp:=fun vs H Q _=>∃(p q:Addr) (x y:Rat) (n m:Nat),vs=[.ref p,.ref q]/\H p=some (.tup ((fr x).map V.int))/\H q=some (.tup ((fr y).map V.int))/\0<=x.num/\0<=y.num/\Bd n x/\Bd m y/\n+m<=13000 /\
 ∀r H',j7 H H'->H' r=some (.tup ((fr (x+y)).map V.int))->Q (.ref r) H'
noncomputable abbrev wk:Stmt:=eI 19
theorem Ed:C3 ["one","other"] ["one","other"] (v9 wk):=⟨rfl,rfl,rfl,by decide +kernel,rfl,by decide +kernel,by decide +kernel⟩
theorem Ey (F:aY K "plus" "plus" wk f fd) (c1:S2 P w K mg base 2 "fraction" ["top","bottom"] bW):M0 P w K mg base cH 3 f fd ["one","other"] iG:=by
 refine F.ok Ed (fun vs H Q E h=>?_) (fun cdv A outer s H vs Q E hr h=>?_)
 ·obtain ⟨p,q,x,y,n,m,rfl,_⟩:=h
  rfl
 obtain ⟨p,q,x,y,n,m,rfl,hp,hq,x0,y0,bx,by',hnm,k⟩:=h
 refine ⟨_,v5 (C7 (B8 c1 hr rfl (b7 (A7 P7 (A7 bL (G1 N2 (pv 0) j8 (fun _ _=>rfl)) (G1 N2 (pv 1) j8 (fun _ _=>rfl))) (A7 bL (G1 N2 (pv 1) j8 (fun _ _=>rfl)) (G1 N2 (pv 0) j8 (fun _ _=>rfl)))) (b7 (A7 bL (G1 N2 (pv 0) j8 (fun _ _=>rfl)) (G1 N2 (pv 1) j8 (fun _ _=>rfl))) d8)))),?_⟩
 have hp':H p=some (.tup [.int x.num,.int x.den]):=hp
 have hq':H q=some (.tup [.int y.num,.int y.den]):=hq
 have b1:A9 x.num<=2 ^ 20:=U1 bx.num (by lia)
 have b2:A9 y.num<=2 ^ 20:=U1 by'.num (by lia)
 have b3:A9 (x.den:Int)<=2 ^ 20:=U1 (by rw[P1];exact bx.den) (by lia)
 have b4:A9 (y.den:Int)<=2 ^ 20:=U1 (by rw[P1];exact by'.den) (by lia)
 refine ⟨_,rfl,p,_,_,_,rfl,rfl,.of hp',C8 (j:=0) rfl,_,rfl,q,_,_,_,rfl,rfl,.of hq',C8 (j:=1) rfl,_,_,rfl,rfl,⟨b1,b4⟩,
  _,rfl,q,_,_,_,rfl,rfl,.of hq',C8 (j:=0) rfl,_,rfl,p,_,_,_,rfl,rfl,.of hp',C8 (j:=1) rfl,_,_,rfl,rfl,⟨b2,b3⟩,_,_,rfl,rfl,
  _,rfl,p,_,_,_,rfl,rfl,.of hp',C8 (j:=1) rfl,_,rfl,q,_,_,_,rfl,rfl,.of hq',C8 (j:=1) rfl,_,_,rfl,rfl,⟨b3,b4⟩,_,_,rfl,?_,?_,?_,?_,?_⟩
 ·exact Jc (bU x0 (by lia)) (bU y0 (by lia))
 ·have h1:=x.den_nz;have h2:=y.den_nz
  have:=af (N4 h1) (N4 h2)
  rw[<- aW];lia
 ·refine m8 (Fo _ _) ?_
  rw[Q0,Q0]
  have a1:=D5 bx.num by'.den
  have a2:=D5 by'.num bx.den
  rw[<- R9] at a1 a2
  have a3:2 ^ (n+m)<=2 ^ 13000:=w5 (by decide) hnm
  rw[Ld m n] at a2
  have a4:2 ^ 13000+2 ^ 13000<=2 ^ 13400:=by
   rw[<- Nat.two_mul,<- KG]
   exact w5 (by decide) (by decide)
  exact m8 (Jb (m8 a1 a3) (m8 a2 a3)) a4
 ·rw[Q0]
  refine m8 (D5 bx.den by'.den) ?_
  rw[<- R9]
  exact w5 (by decide) (by lia)
 ·rw[yx];exact k
noncomputable def nq:Sp:=fun vs H Q _=>∃(a:Addr) (n m:Nat) (ns:List Int) (k:Nat),vs=[.ref a,.int k]/\H a=some (.tup (ns.map V.int))/\Mt.mv n m ns/\n<=4/\m<=1000/\k<n/\∀p H',j7 H H'->H' p=some (.tup ((fr (Mt.AL ns k)).map V.int))->Q (.ref p) H'
noncomputable abbrev rK:Stmt:=eI 33
theorem AR:C3 ["urn","kind"] ["urn","kind"] (v9 rK):=⟨rfl,rfl,rfl,by decide +kernel,rfl,by decide +kernel,by decide +kernel⟩
theorem BH (F:aY K "share" "share" rK f fd) (B:Bt mg) (c1:S2 P w K mg base 2 "fraction" ["top","bottom"] bW):M0 P w K mg base cH 3 f fd ["urn","kind"] nq:=by
 refine F.ok AR (fun vs H Q E h=>?_) (fun cdv A outer s H vs Q E hr h=>?_)
 ·obtain ⟨a,n,m,ns,k,rfl,_⟩:=h
  rfl
 obtain ⟨a,n,m,ns,k,rfl,ha,hu,h4,hm,hk,q⟩:=h
 refine ⟨_,v5 (C7 (B8 c1 hr rfl (b7 (G1 N2 (pv 0) (pv 1) (fun _ _=>rfl)) (b7 (t7 (aP rfl) rfl B.sum qW (b7 (pv 0) d8)) d8)))),?_⟩
 have h2:=mv.sum_le hu h4
 have h3:=hu.pos
 refine ⟨_,rfl,_,rfl,a,_,_,_,rfl,rfl,.of ha,bO (by rw[hu.len];exact hk),_,rfl,a,ns,rfl,.inr (.of ha),_,_,rfl,(hu.getD k).1,h3,m8 (show _<=2 ^ 12 by have:=aB hu k;have:=(hu.getD k).1;show _<=4096;lia) (w5 (by decide) (by decide)),m8 (show _<=2 ^ 12 by show _<=4096;lia) (w5 (by decide) (by decide)),q⟩
end
end G
namespace L2
open PySem PySem.Spec PyProof.Rows
section
variable {K:m9}{σ0:St}{te:TE}{H:Hp}{F:List V->Hp->Prop}
end
section
variable {X:Cx}
noncomputable def FQ (K:m9) (a b:Addr):It :=
 ⟨fun i H=>∃xs ys x y,aQ K H a xs/\dC K H b ys/\xs[i]?=some x/\ys[i]?=some y,fun i H v H'=>∃p x y,H p=none/\v=.ref p/\H'=t6 H p (.tup [x,y])/\(∀xs,aQ K H a xs->xs[i]?=some x)/\∀ys,dC K H b ys->ys[i]?=some y,
  fun i H=>∃xs,aQ K H a xs/\xs.length<=i⟩
noncomputable def HX (K:m9) (ta:TA):TI:=fun σ H R=>ta σ H fun vs H1=>∃a b xs ys,vs=[.ref a,.ref b]/\aQ K H1 a xs/\dC K H1 b ys/\R (FQ K a b) H1
theorem Br {e1 e2:Expr}{es:List Expr}{kk:Nat}{pt p pos:Pos}{ta:TA} (hg:Gl X "zip") (hm:X.mg "zip"=none) (ha:PA X [e1,e2] ta) (hs:w6 [e1,e2] X.env=[(false,eval e1 X.env),(false,eval e2 X.env)]:=by rfl) (hs2:w6 [e2] X.env=[(false,eval e2 X.env)]:=by rfl):
  PI X (.Tuple es kk pt) (.Call (.Name "zip" p) [e1,e2] [] pos) (HX X.K ta):=
 rV hg hm ha (fun I ⟨_,_,_,_,e,hx,hy,h⟩=>⟨_,_,e,jM (p:=false) (q:=true) I hx hy (fun D=>iB D) h⟩) hs hs2
end
section
variable {X:Cx}{K:m9}
theorem zS {a b:Addr}{xs ys:List V}{σ0:St}{te:TE}{H:Hp}{F:List V->Hp->Prop} (hn:xs.length<=i7) (hxy:xs.length=ys.length) (Pv:Nat->List V->Hp->Prop) (h0:Pv 0 [] H) (hl:∀i zs H,Pv i zs H->zs.length=i)
  (hq:∀i zs H,i<=xs.length->Pv i zs H->aQ K H a xs/\dC K H b ys) (hσ:σ0[0]?=some none/\σ0[1]?=some none)
  (hs:∀i zs H x y p,xs[i]?=some x->ys[i]?=some y->H p=none->Pv i zs H->te ((σ0.set 0 (some x)).set 1 (some y)) (t6 H p (.tup [x,y])) fun z H'=>Pv (i+1) (zs++[z]) H') (hd:∀zs H,Pv xs.length zs H->F zs H):
  Fe (FQ K a b) σ0 (Cq K 2 (oi (N7 0) (oi (N7 1) EN))) Q2 te H F:=by
 refine ⟨fun i m zs H=>m=xs.length - i/\i<=xs.length/\Pv i zs H,⟨xs.length,by simp,u9 _,h0⟩,?_⟩
 rintro i m zs H2 ⟨rfl,hi,p⟩
 obtain ⟨q1,q2⟩:=hq i zs H2 hi p
 refine ⟨by rw[hl i zs H2 p];lia,?_⟩
 by_cases hlt:i<xs.length
 ·refine .inr ⟨⟨xs,ys,xs[i],ys[i]'(by lia),q1,q2,by simp[hlt],by rw[d9 (by lia)]⟩,fun y H'=>Pv (i+1) (zs++[y]) H',fun _=>False,fun y H' q=>⟨xs.length - (i+1),by lia,rfl,hlt,q⟩,fun _ q=>q.elim,fun v H3 yld=>?_⟩
  obtain ⟨r,x,y,hr,rfl,rfl,hx,hy⟩:=yld
  exact ⟨r,[x,y],rfl,.of f6,rfl,x,[y],rfl,y,[],rfl,rfl,wk2 hσ _ _,hs i zs _ x y r (hx xs q1) (hy ys q2) hr p⟩
 ·have e:i=xs.length:=by lia
  subst e
  exact .inl ⟨⟨xs,q1,i9 _⟩,hd zs H2 p⟩
end
section
variable {prog:j9}{w:t9}{A:v7}{E:d6->d7->Prop}{s:d7}
end
section
variable {X:Cx}
end
section
variable {X:Cx}{K:m9}
end
end L2
namespace M42
noncomputable def ins (c:Nat):List Nat->List Nat
 | []=>[c]
 | e::es=>aV e c::ins (D2 e c) es
noncomputable def E3:List Nat->Nat
 | []=>1
 | x::xs=>x*E3 xs
theorem uG:∀(es:List Nat) (c:Nat),E3 (ins c es)=c*E3 es
 | [],c=>rfl
 | e::es,c=>by
  show aV e c*E3 (ins (D2 e c) es)=c*(e*E3 es)
  rw[uG es,<- P6,L8 (aV e c),rg,L8 e c,P6]
noncomputable def IK:List Nat->List Nat
 | []=>[]
 | s::ss=>ins s (IK ss)
theorem uY:∀ss:List Nat,E3 (IK ss)=E3 ss
 | []=>rfl
 | s::ss=>by show E3 (ins s (IK ss))=_;rw[uG,uY ss];rfl
noncomputable def L:Nat->Nat
 | 0=>1
 | n+1=>aV (L n) (n+1)
theorem CT:∀n,0<L n
 | 0=>An
 | n+1=>Nat.lcm_pos (CT n) (Nat.succ_pos n)
theorem Cu:∀{n d:Nat},1<=d->d<=n->d ∣ L n
 | 0,d,h1,h2=>by lia
 | n+1,d,h1,h2=>by
  by_cases e:d=n+1
  ·rw[e];exact fW _ _
  ·exact C5 (Cu h1 (by lia)) (gR _ _)
theorem uJ (s a b:Nat):D2 s (aV a b) ∣ aV (D2 s a) (D2 s b):=by
 by_cases hs:s=0
 ·rw[hs];simp
 have hd:0<D2 s (aV a b):=gQ _ (by lia)
 have d1:D2 s (aV a b) ∣ s:=W3 _ _
 have d2:D2 s (aV a b) ∣ aV a b:=J8 _ _
 generalize D2 s (aV a b)=d at hd d1 d2
 have xs:D2 d a ∣ D2 s a:=fX (C5 (W3 _ _) d1) (J8 _ _)
 have ys:D2 d b ∣ D2 s b:=fX (C5 (W3 _ _) d1) (J8 _ _)
 refine C5 ?_ (pN (C5 xs (gR _ _)) (C5 ys (fW _ _)))
 have hab:d*D2 a b ∣ a*b:=by
  rw[<- rg a b,L8 d]
  exact cY _ d2
 have hg:D2 (D2 d a) (D2 d b) ∣ D2 a b:=fX (C5 (W3 _ _) (J8 _ _)) (C5 (J8 _ _) (J8 _ _))
 have hp:0<D2 (D2 d a) (D2 d b):=gQ _ (gQ _ hd)
 have key:d*D2 (D2 d a) (D2 d b) ∣ D2 d a*D2 d b:=by
  have ha:D2 (D2 d a) (D2 d b) ∣ a:=C5 (W3 _ _) (J8 _ _)
  have hb:D2 (D2 d a) (D2 d b) ∣ D2 d b:=J8 _ _
  generalize D2 (D2 d a) (D2 d b)=h at hg ha hb
  rw[<- Nat.gcd_mul_right]
  refine fX (cY _ hb) ?_
  rw[<- Nat.gcd_mul_left]
  refine fX ?_ (C5 (cY _ hg) hab)
  rw[L8 a d]
  exact cY _ ha
 rw[<- rg (D2 d a),L8 (D2 (D2 d a) (D2 d b))] at key
 exact Nat.dvd_of_mul_dvd_mul_right hp key
noncomputable def su:List Nat->Nat
 | []=>1
 | x::xs=>aV x (su xs)
theorem kd:∀{xs:List Nat}{x:Nat},x∈xs->x ∣ su xs
 | y::xs,x,h=>by
  rcases List.mem_cons.mp h with e|e
  ·rw[e];exact gR _ _
  ·exact C5 (kd e) (fW _ _)
theorem iw {M:Nat}:∀{xs:List Nat},(∀x∈xs,x ∣ M)->su xs ∣ M
 | [],_=>Ap _
 | x::xs,h=>pN (h x i4) (iw fun y hy=>h y (f7 _ hy))
theorem uK (s:Nat):∀xs:List Nat,D2 s (su xs) ∣ su (xs.map (D2 s))
 | []=>by show D2 s 1 ∣ 1;rw[Nat.gcd_one_right];exact iV _
 | x::xs=>by
  refine C5 (uJ s x (su xs)) ?_
  exact pN (gR _ _) (C5 (uK s xs) (fW _ _))
noncomputable def gens:Nat->List Nat->List Nat
 | 0,_=>[0]
 | _+1,[]=>[]
 | k+1,s::ss=>gens (k+1) ss++(gens k ss).map (D2 s)
noncomputable def Ks (k:Nat) (ss:List Nat):List Nat->Prop
 | []=>True
 | e::es=>e ∣ su (gens k ss)/\Ks (k+1) ss es
theorem Cg {s:Nat}{ss:List Nat}:∀{es:List Nat}{k c:Nat},Ks (k+1) ss es->c ∣ su ((gens k ss).map (D2 s))->c ∣ s->Ks (k+1) (s::ss) (ins c es)
 | [],k,c,_,hc,_=>⟨C5 hc (iw fun x hx=>kd (y7 _ hx)),trivial⟩
 | e::es,k,c,h,hc,hs=>by
  refine ⟨pN (C5 h.1 (iw fun x hx=>kd (T9 _ hx))) (C5 hc (iw fun x hx=>kd (y7 _ hx))),?_⟩
  refine Cg (k:=k+1) h.2 ?_ (C5 (J8 _ _) hs)
  refine C5 ?_ (uK s _)
  exact fX (C5 (J8 _ _) hs) (C5 (W3 _ _) h.1)
theorem CF:∀ss:List Nat,Ks 1 ss (IK ss)
 | []=>trivial
 | s::ss=>Cg (k:=0) (CF ss) (by rw[show gens 0 ss=[0] by cases ss <;> rfl];show s ∣ aV (D2 s 0) 1;rw[Nat.gcd_zero_right,Nat.lcm_one_right];exact iV _) (iV s)
theorem oh:∀{k:Nat}{ss:List Nat}{g:Nat},g∈gens k ss->∃U:List Nat,U.Sublist ss/\U.length=k/\∀u∈U,g ∣ u
 | 0,ss,g,_=>⟨[],List.nil_sublist _,rfl,by simp⟩
 | k+1,[],g,h=>by cases h
 | k+1,s::ss,g,h=>by
  rcases List.mem_append.mp h with a|a
  ·obtain ⟨U,h1,h2,h3⟩:=oh a
   exact ⟨U,h1.cons s,h2,h3⟩
  ·obtain ⟨x,hx,rfl⟩:=List.mem_map.mp a
   obtain ⟨U,h1,h2,h3⟩:=oh hx
   refine ⟨s::U,h1.cons₂ s,by rw[r6,h2],fun u hu=>?_⟩
   rcases List.mem_cons.mp hu with e|e
   ·rw[e];exact W3 _ _
   ·exact C5 (J8 _ _) (h3 u e)
theorem Fv {g S:Nat}:∀{U:List Nat}{a:Nat},U.Pairwise (·<·)->(∀u∈U,g ∣ u/\a<u/\u<=S)->g ∣ a->a<=S->a+U.length*g<=S
 | [],a,_,_,_,h=>by simpa using h
 | u::U,a,hp,h,ha,_=>by
  obtain ⟨h1,h2⟩:=List.pairwise_cons.mp hp
  obtain ⟨gu,au,uS⟩:=h u i4
  have ih:=Fv (U:=U) (a:=u) h2 (fun v hv=>⟨(h v (f7 _ hv)).1,h1 v hv,(h v (f7 _ hv)).2.2⟩) gu uS
  have:a+g<=u:=by
   obtain ⟨x,rfl⟩:=ha
   obtain ⟨y,rfl⟩:=gu
   have:x<y:=Nat.lt_of_mul_lt_mul_left au
   have:=dP g (Nat.succ_le_of_lt this)
   rw[Nat.mul_succ] at this
   exact this
  rw[r6,mT]
  lia
theorem Ia {S k:Nat}{ss:List Nat} (hp:ss.Pairwise (·<·)) (hs:∀s∈ss,0<s/\s<=S) (hk:1<=k):su (gens k ss) ∣ L (S / k):=iw fun g hg=>by
 obtain ⟨U,h1,h2,h3⟩:=oh hg
 have hU:∀u∈U,g ∣ u/\0<u/\u<=S:=fun u hu=>⟨h3 u hu,hs u (h1.mem hu)⟩
 have hl:=Fv (a:=0) (List.Pairwise.sublist h1 hp) hU (Nat.dvd_zero _) (u9 _)
 rw[h2,ar] at hl
 have g1:1<=g:=by
  cases U with
  | nil=>rw[<- h2] at hk;simp at hk
  | cons u U=>exact Nat.pos_of_dvd_of_pos (h3 u i4) (hU u i4).2.1
 exact Cu g1 ((Nat.le_div_iff_mul_le (by lia)).mpr (by rw[L8];exact hl))
noncomputable def PL (S:Nat):Nat->Nat->Nat
 | _,0=>1
 | k,m+1=>L (S / k)*PL S (k+1) m
theorem FN {S:Nat}{ss:List Nat} (hp:ss.Pairwise (·<·)) (hs:∀s∈ss,0<s/\s<=S):∀{es:List Nat}{k:Nat},1<=k->Ks k ss es->E3 es ∣ PL S k es.length
 | [],_,_,_=>iV _
 | e::es,k,hk,h=>dH (C5 h.1 (Ia hp hs hk)) (FN hp hs (Nat.le_succ_of_le hk) h.2)
theorem yj:∀(es:List Nat) (c:Nat),(ins c es).length=es.length+1
 | [],_=>rfl
 | e::es,c=>by show (ins _ es).length+1=_;rw[yj es];rfl
theorem yB:∀ss:List Nat,(IK ss).length=ss.length
 | []=>rfl
 | s::ss=>by show (ins s (IK ss)).length=_;rw[yj,yB ss];rfl
theorem ud {S:Nat}{ss:List Nat} (hp:ss.Pairwise (·<·)) (hs:∀s∈ss,0<s/\s<=S):E3 ss ∣ PL S 1 ss.length:=by
 have:=FN hp hs (k:=1) (i9 _) (CF ss)
 rwa [uY,yB] at this
noncomputable def DD (t z:Nat):Nat:=L (80+20*(t - z)) ^ z*PL (80+20*(t - z)) 1 (t - z)
theorem Kr:∀t:Fin 21,∀z:Fin 21,z.1<=t.1->DD t.1 z.1<=2 ^ 5300:=by decide +kernel
end M42
namespace Mq
open Mt Md M42
theorem Z1:∀(a b:List Nat),E3 (a++b)=E3 a*E3 b
 | [],b=>by show E3 b=1*E3 b;rw[Ao]
 | x::a,b=>by show x*E3 (a++b)=x*E3 a*E3 b;rw[Z1 a b,P6]
theorem eW:∀{a:List Nat},(∀s∈a,0<s)->0<E3 a
 | [],_=>An
 | x::a,h=>af (h x i4) (eW fun s hs=>h s (f7 _ hs))
structure Way (S m z:Nat) (y:Rat) (G Z:List Nat) (a:Nat):Prop where
 up:G.Pairwise (·<·)
 gs:∀s∈G,0<s/\s<S
 gl:G.length=m
 zs:∀s∈Z,0<s/\s<=S
 zl:Z.length=z
 le:a<=E3 G*E3 Z
 eq:y*((E3 G*E3 Z:Nat):Rat)=(a:Rat)
noncomputable def Wy (S m z:Nat) (y:Rat):Prop:=∃G Z a,Way S m z y G Z a
noncomputable def vF (S m z B:Nat) (x:Rat):Prop:=∃ys:List Rat,ys.length<=B/\(∀y∈ys,Wy S m z y)/\x=cz ys
section
variable {S m z B C:Nat}{x y:Rat}
theorem vF.add (h:vF S m z B x) (k:vF S m z C y):vF S m z (B+C) (x+y):=by
 obtain ⟨xs,h1,h2,rfl⟩:=h
 obtain ⟨ys,k1,k2,rfl⟩:=k
 exact ⟨xs++ys,by rw[t8];lia,fun w hw=>(List.mem_append.mp hw).elim (h2 w) (k2 w),(dR xs ys).symm⟩
theorem vF.mono (h:vF S m z B x) (l:B<=C):vF S m z C x:=by
 obtain ⟨xs,h1,h2,h3⟩:=h
 exact ⟨xs,m8 h1 l,h2,h3⟩
theorem vF.start (hS:0<S):vF S 0 0 1 1:=⟨[1],i9 _,fun y hy=>by
 rw[List.mem_singleton.mp hy]
 exact ⟨[],[],1,aw,by simp,rfl,by simp,rfl,i9 _,by show (1:Rat)*((1*1:Nat):Rat)=((1:Nat):Rat);grind⟩,by show (1:Rat)=1+0;grind⟩
variable {b:Int}
theorem mH {p a:Nat}(hS:0<S) (b0:0<=b) (e:y*((p:Nat):Rat)=(a:Rat)):y*cut b (S:Int)*((p*S:Nat):Rat)=((a*b.toNat:Nat):Rat):=by
 have h:=kA (t:=b) (s:=(S:Int)) (by lia)
 have e1:(((S:Nat):Int):Rat)=((S:Nat):Rat):=by norm_cast
 have e2:((b:Int):Rat)=((b.toNat:Nat):Rat):=by
  have:(b:Int)=((b.toNat:Nat):Int):=by lia
  rw[this];norm_cast
 have e3:((p*S:Nat):Rat)=(p:Rat)*(S:Rat):=by norm_cast
 have e4:((a*b.toNat:Nat):Rat)=(a:Rat)*(b.toNat:Rat):=by norm_cast
 rw[e3,e4,<- e,<- e2,<- h,e1]
 grind
theorem Wy.zero (h:Wy S m z y) (hS:0<S) (b0:0<=b) (bS:b<=S):Wy S m (z+1) (y*cut b (S:Int)):=by
 obtain ⟨G,Z,a,w⟩:=h
 refine ⟨G,Z++[S],a*b.toNat,w.up,w.gs,w.gl,fun s hs=>?_,by rw[t8,w.zl];rfl,?_,?_⟩
 ·rcases List.mem_append.mp hs with e|e
  ·exact w.zs s e
  ·rw[List.mem_singleton.mp e];exact ⟨hS,i9 _⟩
 ·rw[Z1,<- P6,show E3 [S]=S from fU S]
  exact D5 w.le (by lia)
 ·rw[Z1,<- P6,show E3 [S]=S from fU S]
  exact mH hS b0 w.eq
theorem Wy.grow {g:Nat} (h:Wy S m z y) (hS:0<S) (b0:0<=b) (bS:b<=S) (hg:0<g):Wy (S+g) (m+1) z (y*cut b (S:Int)):=by
 obtain ⟨G,Z,a,w⟩:=h
 have ep:E3 (G++[S])*E3 Z=E3 G*E3 Z*S:=by
  rw[Z1,show E3 [S]=S from fU S,P6,L8 S,P6]
 refine ⟨G++[S],Z,a*b.toNat,List.pairwise_append.mpr ⟨w.up,vN ..,fun s hs t ht=>by rw[List.mem_singleton.mp ht];exact (w.gs s hs).2⟩,fun s hs=>?_,by rw[t8,w.gl];rfl,fun s hs=>⟨(w.zs s hs).1,by have:=(w.zs s hs).2;lia⟩,w.zl,?_,?_⟩
 ·rcases List.mem_append.mp hs with e|e
  ·have:=w.gs s e;exact ⟨this.1,by lia⟩
  ·rw[List.mem_singleton.mp e];exact ⟨hS,by lia⟩
 ·rw[ep];exact D5 w.le (by lia)
 ·rw[ep];exact mH hS b0 w.eq
theorem vF.map {S' m' z':Nat}{q:Rat} (h:vF S m z B x) (f:∀y,Wy S m z y->Wy S' m' z' (y*q)):vF S' m' z' B (x*q):=by
 obtain ⟨xs,h1,h2,rfl⟩:=h
 refine ⟨xs.map (·*q),by rw[b9];exact h1,fun w hw=>?_,?_⟩
 ·obtain ⟨v,hv,rfl⟩:=List.mem_map.mp hw
  exact f v (h2 v hv)
 ·clear h1 h2
  induction xs with
  | nil=>show (0:Rat)*q=0;grind
  | cons v xs ih=>show (v+cz xs)*q=v*q+cz (xs.map (·*q));rw[<- ih];grind
noncomputable def DN (m z:Nat):Nat:=L (80+20*m) ^ z*PL (80+20*m) 1 m
theorem CN (S:Nat):∀m k,0<PL S k m
 | 0,_=>An
 | m+1,k=>af (CT _) (CN S m (k+1))
theorem CY (m z:Nat):0<DN m z:=af (Nat.pow_pos (CT _)) (CN _ _ _)
theorem CK {S:Nat}:∀{Z:List Nat},(∀s∈Z,0<s/\s<=S)->E3 Z ∣ L S ^ Z.length
 | [],_=>by show 1 ∣ _;exact Ap _
 | s::Z,h=>by
  rw[r6,mW,L8]
  exact dH (Cu (h s i4).1 (h s i4).2) (CK fun t ht=>h t (f7 _ ht))
theorem Wy.vq (h:Wy S m z y) (hS:S<=80+20*m):Vq (DN m z) 1 y:=by
 obtain ⟨G,Z,a,w⟩:=h
 have hp:0<E3 G*E3 Z:=af (eW fun s hs=>(w.gs s hs).1) (eW fun s hs=>(w.zs s hs).1)
 have d1:E3 G ∣ PL (80+20*m) 1 m:=by
  have:=ud (S:=80+20*m) w.up fun s hs=>⟨(w.gs s hs).1,by have:=(w.gs s hs).2;lia⟩
  rwa [w.gl] at this
 have d2:E3 Z ∣ L (80+20*m) ^ z:=by
  have:=CK (S:=80+20*m) (Z:=Z) fun s hs=>⟨(w.zs s hs).1,by have:=(w.zs s hs).2;lia⟩
  rwa [w.zl] at this
 obtain ⟨t,ht⟩:E3 G*E3 Z ∣ DN m z:=by unfold DN;rw[L8 (E3 G)];exact dH d2 d1
 have e:=w.eq
 have hle:=w.le
 generalize E3 G*E3 Z=p at hp ht e hle
 have hpR:(0:Rat)<(p:Rat):=by exact_mod_cast hp
 have haR:(0:Rat)<=(a:Rat):=by exact_mod_cast u9 a
 have hlR:(a:Rat)<=(p:Rat):=by exact_mod_cast hle
 refine ⟨?_,?_,(a*t:Nat),?_⟩
 ·refine Rat.not_lt.mp fun hn=>?_
  have:=Z6 hn hpR
  grind
 ·refine Rat.not_lt.mp fun hn=>?_
  have:=Z6 hn hpR
  grind
 ·rw[ht]
  have e3:((p*t:Nat):Rat)=(p:Rat)*(t:Rat):=by norm_cast
  have e4:(((a*t:Nat):Int):Rat)=(a:Rat)*(t:Rat):=by norm_cast
  rw[e3,e4,<- e]
  grind
theorem vF.vq (h:vF S m z B x) (hS:S<=80+20*m):Vq (DN m z) B x:=by
 obtain ⟨xs,h1,h2,rfl⟩:=h
 have:=rq (N:=DN m z) (B:=1) (xs:=xs) fun y hy=>(h2 y hy).vq hS
 rw[Ao] at this
 exact this.mono h1
end
theorem CZ {m z:Nat} (h:m+z<=20):DN m z<=2 ^ 5300:=by
 have:=Kr ⟨m+z,by lia⟩ ⟨z,by lia⟩ (by show z<=m+z;lia)
 unfold DD at this
 dsimp only at this
 rw[DS] at this
 exact this
noncomputable def gN (rs:List (List Int)) (j:Nat):Nat:=(rs.getD j []).sum.toNat
noncomputable def zN (rs:List (List Int)):List Int->Nat->Nat
 | [],_=>0
 | c::cs,j=>(if gN rs j=0 then c.toNat else 0)+zN rs cs (j+1)
noncomputable def mN (rs:List (List Int)):List Int->Nat->Nat
 | [],_=>0
 | c::cs,j=>(if gN rs j=0 then 0 else c.toNat)+mN rs cs (j+1)
noncomputable def tN:List Int->Nat
 | []=>0
 | c::cs=>c.toNat+tN cs
theorem DY (rs:List (List Int)):∀(c:List Int) (j:Nat),mN rs c j+zN rs c j=tN c
 | [],_=>rfl
 | c::cs,j=>by
  have:=DY rs cs (j+1)
  unfold mN zN tN
  split <;> lia
theorem Cj (x:Int) (c:List Int) (k:Nat):inc (x::c) (k+1)=x::inc c k:=by
 unfold inc
 rfl
theorem CQ (rs:List (List Int)):∀(c:List Int) (j k:Nat),k<c.length->0<=c.getD k 0->zN rs (inc c k) j=zN rs c j+(if gN rs (j+k)=0 then 1 else 0)/\mN rs (inc c k) j=mN rs c j+(if gN rs (j+k)=0 then 0 else 1)/\tN (inc c k)=tN c+1
 | x::c,j,0,_,h=>by
  have h0:0<=x:=h
  have e:(x+1).toNat=x.toNat+1:=by lia
  show (if gN rs j=0 then (x+1).toNat else 0)+zN rs c (j+1)=(if gN rs j=0 then x.toNat else 0)+zN rs c (j+1)+(if gN rs (j+0)=0 then 1 else 0)/\(if gN rs j=0 then 0 else (x+1).toNat)+mN rs c (j+1)=(if gN rs j=0 then 0 else x.toNat)+mN rs c (j+1)+(if gN rs (j+0)=0 then 0 else 1)/\(x+1).toNat+tN c=x.toNat+tN c+1
  rw[e,show j+0=j from rfl]
  by_cases g:gN rs j=0
  ·simp only[if_pos g];lia
  ·simp only[if_neg g];lia
 | x::c,j,k+1,hk,h=>by
  obtain ⟨a1,a2,a3⟩:=CQ rs c (j+1) k (by simpa using hk) h
  rw[Cj]
  have e:j+1+k=j+(k+1):=by lia
  rw[e] at a1 a2
  unfold zN mN tN
  rw[a1,a2,a3]
  refine ⟨?_,?_,?_⟩ <;> lia
structure Ww (u:List Int) (rs:List (List Int)) (k B:Nat) (c:List Int) (x:Rat):Prop where
 tot:tN c=k
 w:vF (N8 u rs c).sum.toNat (mN rs c 0) (zN rs c 0) B x
 le:(N8 u rs c).sum.toNat<=80+20*mN rs c 0
noncomputable def gD (u:List Int) (rs:List (List Int)) (k B:Nat) (T:P2):Prop:=∀p∈T,Ww u rs k B p.1 p.2
section
variable {u:List Int}{rs:List (List Int)}{k B C:Nat}
theorem Ww.mono {c:List Int}{x:Rat} (h:Ww u rs k B c x) (l:B<=C):Ww u rs k C c x:=⟨h.tot,h.w.mono l,h.le⟩
theorem Ww.vq {c:List Int}{x:Rat} (h:Ww u rs k B c x) (k20:k<=20):∃N,0<N/\N<=2 ^ 5300/\Vq N B x :=
 ⟨DN (mN rs c 0) (zN rs c 0),CY _ _,CZ (by rw[DY,h.tot];exact k20),h.w.vq h.le⟩
theorem Ww.bd {c:List Int}{x:Rat} (h:Ww u rs k B c x) (k20:k<=20) (hB:B<=2 ^ 400):Bd 5700 x:=by
 obtain ⟨N,n0,n1,v⟩:=h.vq k20
 refine v.bd n0 ?_ (m8 n1 (w5 (by decide) (by decide)))
 rw[show 2 ^ 5700=2 ^ 5300*2 ^ 400 from by rw[<- R9]]
 exact D5 n1 hB
theorem Ww.inc {n j:Nat}{c:List Int}{x:Rat} (hu:u.length=n) (hR:ma n 5 rs) (n4:n<=4) (hc:Cn u rs n k c) (hj:j<n) (h:Ww u rs k B c x):Ww u rs (k+1) B (Md.inc c j) (x*cut ((N8 u rs c).getD j 0) (N8 u rs c).sum):=by
 have hjc:j<c.length:=by rw[hc.len];exact hj
 obtain ⟨a1,a2,a3⟩:=CQ rs c 0 j hjc (hc.nn _ (qz hjc)).1
 rw[ar] at a1 a2
 have hs:=hc.urn.pos
 have hrow:=hR.at hj
 have lb:(N8 u rs c).length=(rs.getD j []).length:=by rw[hc.urn.len,hrow.len]
 have eS:(N8 u rs (Md.inc c j)).sum=(N8 u rs c).sum+(rs.getD j []).sum:=by rw[sT hu hc.len hR hj,kF lb]
 have g0:0<=(rs.getD j []).sum:=by
  have:∀l:List Int,(∀y∈l,0<=y)->0<=l.sum:=fun l=>by
   induction l with
   | nil=>intro _;decide
   | cons y l ih=>intro h;rw[K5];have:=ih fun z hz=>h z (f7 _ hz);have:=h y i4;lia
  exact this _ fun y hy=>(hrow.nn y hy).1
 have g20:(rs.getD j []).sum<=20:=by
  have:=Mt.sum_le (m:=5) (fun y hy=>(hrow.nn y hy).2)
  rw[hrow.len] at this
  lia
 have eT:(N8 u rs (Md.inc c j)).sum.toNat=(N8 u rs c).sum.toNat+gN rs j:=by unfold gN;rw[eS];lia
 have b0:=(hc.urn.getD j).1
 have b1:=aB hc.urn j
 have eC:(((N8 u rs c).sum.toNat:Nat):Int)=(N8 u rs c).sum:=by lia
 have hle:=h.le
 refine ⟨by rw[a3,h.tot],?_,?_⟩
 ·rw[eT,a1,a2]
  refine h.w.map fun y hy=>?_
  have hS:0<(N8 u rs c).sum.toNat:=by lia
  by_cases hg:gN rs j=0
  ·rw[if_pos hg,if_pos hg,hg]
   have:=hy.zero hS b0 (by lia)
   rw[eC] at this
   exact this
  ·rw[if_neg hg,if_neg hg]
   have:=hy.grow (g:=gN rs j) hS b0 (by lia) (by lia)
   rw[eC] at this
   exact this
 ·rw[eT,a2]
  by_cases hg:gN rs j=0
  ·rw[if_pos hg,hg];lia
  ·rw[if_neg hg]
   have:gN rs j<=20:=by unfold gN;lia
   lia
theorem gD.add {c:List Int}{x:Rat} (hx:Ww u rs k C c x):∀{D:P2},gD u rs k B D->gD u rs k (B+C) (cg D c x)
 | [],_=>fun p hp=>by
  unfold cg at hp
  rw[List.mem_singleton.mp hp]
  exact hx.mono (by lia)
 | q::D,h=>fun p hp=>by
  unfold cg at hp
  split at hp
  ·rename_i e
   rcases List.mem_cons.mp hp with z|z
   ·rw[z]
    have hq:=h q i4
    refine ⟨hq.tot,hq.w.add ?_,hq.le⟩
    rw[e];exact hx.w
   ·exact (h p (f7 _ z)).mono (by lia)
  ·rcases List.mem_cons.mp hp with z|z
   ·rw[z];exact (h q i4).mono (by lia)
   ·exact gD.add hx (fun r hr=>h r (f7 _ hr)) p z
theorem gD.mono {T:P2} (h:gD u rs k B T) (l:B<=C):gD u rs k C T:=fun p hp=>(h p hp).mono l
theorem Bj {n:Nat}{c:List Int}{x:Rat}{i:Nat} (hu:u.length=n) (hR:ma n 5 rs) (n4:n<=4) (hc:Cn u rs n k c) (h:Ww u rs k C c x):∀(bs:List (Int × List Int)) {D:P2}{B:Nat},(∀b∈bs,∃j,j<n/\b=((N8 u rs c).getD j 0,Md.inc c j))->gD u rs (k+1) B D->gD u rs (k+1) (B+C*bs.length) (Y2 x (N8 u rs c).sum bs D)
 | [],D,B,_,hD=>hD
 | b::bs,D,B,hb,hD=>by
  unfold Y2
  obtain ⟨j,hj,e⟩:=hb b i4
  have hv:Ww u rs (k+1) C b.2 (x*cut b.1 (N8 u rs c).sum):=by rw[e];exact h.inc hu hR n4 hc hj
  refine (Bj (i:=i) hu hR n4 hc h bs (fun b hb'=>hb b (f7 _ hb')) (hD.add hv)).mono ?_
  rw[r6,fV];lia
theorem BR {n:Nat}{g:List Int} (hu:u.length=n) (hR:ma n 5 rs) (n4:n<=4):∀(T:P2) {D:P2}{B:Nat},KC u rs n k T->gD u rs k C T->gD u rs (k+1) B D->gD u rs (k+1) (B+C*(4*T.length)) (O1 u rs g T D)
 | [],D,B,_,_,hD=>hD
 | p::T,D,B,hK,hT,hD=>by
  unfold O1
  have h1:=Bj (i:=0) hu hR n4 (hK p i4) (hT p i4) (kN u rs g p.1 u.length) (fun b hb=>by obtain ⟨j,hj,e⟩:=mM hb;exact ⟨j,by lia,e⟩) hD
  refine (BR hu hR n4 T (fun q hq=>hK q (f7 _ hq)) (fun q hq=>hT q (f7 _ hq)) h1).mono ?_
  have e:=sQ u rs g p.1 u.length
  have:C*(kN u rs g p.1 u.length).length<=C*4:=dP _ (by lia)
  rw[r6,fV 4,fV C];lia
theorem gD.val {n:Nat}{c:List Int} (k20:k<=20) (hB:B<=2 ^ 400):∀{D:P2},gD u rs k B D->0<=eO D c/\Bd 5700 (eO D c)
 | [],_=>⟨by show (0:Rat)<=0;grind,(Vq.zero 1 0).bd (N:=1) (by decide) (by show 1*0<=_;lia) (Nat.one_le_two_pow)⟩
 | q::D,h=>by
  unfold eO
  split
  ·have hq:=h q i4
   obtain ⟨N,_,_,v⟩:=hq.vq k20
   exact ⟨v.nn,hq.bd k20 hB⟩
  ·exact gD.val (n:=n) k20 hB fun r hr=>h r (f7 _ hr)
theorem Bk {n:Nat}{x:Rat}{s:Int}:∀(bs:List (Int × List Int)) {D:P2},(∀b∈bs,Cn u rs n k b.2)->KC u rs n k D->qK D->KC u rs n k (Y2 x s bs D)/\qK (Y2 x s bs D)/\(Y2 x s bs D).length<=D.length+bs.length
 | [],D,_,h1,h2=>⟨h1,h2,by unfold Y2;simp⟩
 | b::bs,D,h,h1,h2=>by
  unfold Y2
  obtain ⟨a1,a2,a3⟩:=Bk (x:=x) (s:=s) bs (D:=cg D b.2 (x*cut b.1 s)) (fun c hc=>h c (f7 _ hc)) (h1.add (h b i4)) (xW h2)
  refine ⟨a1,a2,?_⟩
  have:=uy b.2 (x*cut b.1 s) D
  rw[r6];lia
theorem BS {n:Nat}{g:List Int} (hu:u.length=n) (hR:ma n 5 rs):∀(T:P2) {D:P2},KC u rs n k T->KC u rs n (k+1) D->qK D->KC u rs n (k+1) (O1 u rs g T D)/\qK (O1 u rs g T D)/\(O1 u rs g T D).length<=D.length+n*T.length
 | [],D,_,h1,h2=>⟨h1,h2,by unfold O1;simp⟩
 | p::T,D,hK,h1,h2=>by
  unfold O1
  obtain ⟨b1,b2,b3⟩:=Bk (k:=k+1) (x:=p.2) (s:=(N8 u rs p.1).sum) (kN u rs g p.1 u.length) (fun b hb=>(CG hu hR (hK p i4) (by lia) b hb).2) h1 h2
  obtain ⟨a1,a2,a3⟩:=BS (g:=g) hu hR T (fun q hq=>hK q (f7 _ hq)) b1 b2
  have e:=sQ u rs g p.1 u.length
  refine ⟨a1,a2,?_⟩
  rw[r6,fV,fU];lia
end
noncomputable def CC:Nat->Nat->List (List Int)
 | 0,k=>if k=0 then [[]] else []
 | n+1,k=>(D4 (k+1)).flatMap fun j=>(CC n (k - j)).map fun c=>(j:Int)::c
theorem yy:∀{n:Nat}{c:List Int},c.length=n->(∀x∈c,0<=x)->c∈CC n (tN c)
 | 0,[],_,_=>List.mem_singleton.mpr rfl
 | n+1,x::c,hl,h=>by
  have ih:=yy (n:=n) (c:=c) (by simpa using hl) fun y hy=>h y (f7 _ hy)
  have hx:=h x i4
  show x::c∈(D4 (tN (x::c)+1)).flatMap fun j=>(CC n (tN (x::c) - j)).map fun c=>(j:Int)::c
  refine List.mem_flatMap.mpr ⟨x.toNat,List.mem_range.mpr (show x.toNat<x.toNat+tN c+1 by lia),List.mem_map.mpr ⟨c,?_,by rw[show ((x.toNat:Nat):Int)=x by lia]⟩⟩
  rw[show tN (x::c) - x.toNat=tN c from Nat.add_sub_cancel_left ..]
  exact ih
theorem ng {B:Nat}:∀{l:List Nat},(∀x∈l,x<=B)->l.sum<=l.length*B
 | [],_=>by simp
 | x::l,h=>by
  have:=ng (l:=l) fun y hy=>h y (f7 _ hy)
  have:=h x i4
  rw[K5,r6,mT];lia
theorem yz:∀n k:Nat,(CC (n+1) k).length<=(k+1) ^ n
 | 0,k=>by
  show ((D4 (k+1)).flatMap fun j=>(CC 0 (k - j)).map fun c=>(j:Int)::c).length<=1
  rw[iW,Aw,t8,Au]
  have e:((D4 k).map fun j=>((CC 0 (k - j)).map fun c=>(j:Int)::c).length)=(D4 k).map fun _=>0:=Ar fun j hj=>by
   have:=List.mem_range.mp hj
   unfold CC
   rw[if_neg (by lia)];rfl
  have e2:∀l:List Nat,(l.map fun _=>(0:Nat)).sum=0:=fun l=>by
   induction l with
   | nil=>rfl
   | cons x l ih=>rw[B9,K5,ih]
  rw[e,e2]
  show 0+(((CC 0 (k - k)).map fun c=>(k:Int)::c)++[]).length<=1
  rw[mV]
  exact i9 1
 | n+1,k=>by
  show ((D4 (k+1)).flatMap fun j=>(CC (n+1) (k - j)).map fun c=>(j:Int)::c).length<=(k+1) ^ (n+1)
  rw[Au]
  refine m8 (ng (B:=(k+1) ^ n) fun x hx=>?_) ?_
  ·obtain ⟨j,hj,e⟩:=List.mem_map.mp hx
   rw[<- e,b9]
   exact m8 (yz n (k - j)) (Dk (by lia) n)
  ·rw[b9,Q7,mW,L8];exact i9 _
theorem JX {n k:Nat} (n1:1<=n) (n4:n<=4) (hk:k<=20):(CC n k).length<=9300:=by
 obtain ⟨m,rfl⟩:∃m,n=m+1:=⟨n - 1,by lia⟩
 refine m8 (yz m k) (m8 (Dk (show k+1<=21 by lia) m) (m8 (w5 (by decide) (show m<=3 by lia)) (by decide)))
theorem FG {u:List Int}{rs:List (List Int)}{n k B:Nat}{T:P2} (n1:1<=n) (n4:n<=4) (hk:k<=20) (h1:KC u rs n k T) (h2:qK T) (h3:gD u rs k B T):T.length<=9300:=by
 unfold qK at h2
 have:=BV (m:=CC n k) h2 fun a ha=>by
  obtain ⟨p,hp,e⟩:=List.mem_map.mp ha
  have hc:=h1 p hp
  rw[<- e,<- (h3 p hp).tot]
  exact yy hc.len fun x hx=>(hc.nn x hx).1
 rw[b9] at this
 exact m8 this (JX n1 n4 hk)
theorem KJ {n:Nat}{rs:List (List Int)}{u:List Int} (g:List Int) (hR:ma n 5 rs) (n1:1<=n) (n4:n<=4) (hu:mv n 20 u):∀k:Nat,k<=20->KC u rs n k (pL u rs g k)/\qK (pL u rs g k)/\gD u rs k (2 ^ (16*k)) (pL u rs g k)/\(pL u rs g k).length<=9300
 | 0,_=>by
  have e0:N8 u rs (m6 u.length 0)=u:=ve u rs u.length
  refine ⟨fun p hp=>by rw[List.mem_singleton.mp hp];exact Cn.zero hu,by unfold qK;simp[pL],fun p hp=>?_,by show 1<=9300;decide⟩
  rw[List.mem_singleton.mp hp]
  have tz:∀m,tN (m6 m 0)=0:=fun m=>by
   induction m with
   | zero=>rfl
   | succ m ih=>rw[E4];unfold tN;rw[ih];rfl
  have zz:=DY rs (m6 u.length 0) 0
  rw[tz] at zz
  have hs:=Mt.sum_le (m:=20) (fun y hy=>(hu.nn y hy).2)
  rw[hu.len] at hs
  have hp:=hu.pos
  refine ⟨tz _,?_,?_⟩
  ·rw[show (mN rs (m6 u.length 0) 0)=0 by lia,show (zN rs (m6 u.length 0) 0)=0 by lia]
   exact vF.start (by rw[e0];lia)
  ·show (N8 u rs (m6 u.length 0)).sum.toNat<=_
   rw[e0];lia
 | k+1,hk=>by
  obtain ⟨a1,a2,a3,a4⟩:=KJ g hR n1 n4 hu k (by lia)
  obtain ⟨b1,b2,_⟩:=BS (g:=g) hu.len hR (pL u rs g k) (D:=[]) a1 (fun p hp=>by simp at hp) (by unfold qK;simp)
  have b3:=BR (g:=g) hu.len hR n4 (pL u rs g k) (D:=[]) (B:=0) a1 a3 (fun p hp=>by simp at hp)
  refine ⟨b1,b2,b3.mono ?_,?_⟩
  ·rw[ar,show 16*(k+1)=16*k+16 by lia,R9]
   exact dP _ (by show _<=65536;lia)
  ·exact FG n1 n4 hk b1 b2 b3
end Mq
namespace G
open PySem PySem.Spec PyProof.Rows L2 Mt Md Mq
theorem dq {l:Addr}{H H':Hp}{o:HO} (hl:H l=some o) (ho:∀xs,o≠.tup xs) (k:Kp l H H'):∀a xs,H a=some (.tup xs)->H' a=some (.tup xs):=fun a xs e=>k a _ (fun z=>by rw[z,hl] at e;injection e with e;exact ho _ e) e
noncomputable def W5 (i:Nat) (cs:List Int) (rs:List (List Int)):List Int:=xm (fun c r=>c*r.getD i 0) cs rs
theorem jA (rs:List (List Int)) (i:Nat):∀(cs:List Int) (j:Nat),cs.length+j<=rs.length->jc rs i cs j=(W5 i cs (rs.drop j)).sum
 | [],_,_=>by unfold jc W5;simp
 | c::cs,j,h=>by
  rw[r6] at h
  have hj:j<rs.length:=by lia
  unfold jc
  rw[jA rs i cs (j+1) (by lia),tG hj]
  unfold W5
  rw[List.zipWith_cons_cons,K5,j6 (l:=rs),d9 hj];rfl
theorem sy:∀(c:List Int) (k:Nat),k<c.length->inc c k=c.take k++[c.getD k 0+1]++c.drop (k+1)
 | x::c,0,_=>rfl
 | x::c,k+1,h=>by
  have:=sy c k (by simpa using h)
  show x::inc c k=x::(c.take k++[c.getD k 0+1]++c.drop (k+1))
  rw[this]
noncomputable def ml (rs:List (List Int)) (cs:List Int) (i:Nat):List Int:=(D4 i).map fun j=>jc rs j cs 0
theorem ub (rs:List (List Int)) (cs:List Int) (i:Nat):(ml rs cs i).length=i:=by unfold ml;rw[b9,Q7]
section
variable {P:j9}{w:t9}{K:m9}{mg:Str->Option d6}{base:Heap}{f:Addr}{fd:C4}{ec:Nat->Addr}{Bs:Addr}
noncomputable def vT:Sp:=fun vs H Q _=>∃(a c st:Addr) (v:V) (n:Nat) (ns cs:List Int) (rs:List (List Int)),vs=[.ref a,v,.ref c]/\H a=some (.tup (ns.map V.int))/\ns.length=n/\Dt st H (DR rs) v/\Mt.ma n 5 rs/\n<=4/\cs.length=n/\H c=some (.tup (cs.map V.int))/\(∀x∈cs,0<=x/\x<=100) /\
 ∀p H',j7 H H'->H' p=some (.tup ((N8 ns rs cs).map V.int))->Q (.ref p) H'
noncomputable abbrev AW:Stmt:=eI 35
theorem AO:C3 ["urn","rule","counts","put"] ["urn","rule","counts"] (v9 AW):=⟨rfl,rfl,rfl,by decide +kernel,rfl,by decide +kernel,by decide +kernel⟩
theorem GY (F:aY K "urn_by_counts" "urn_by_counts" AW f fd) (B:Bt mg):M0 P w K mg base cH 1 f fd ["urn","rule","counts"] vT:=by
 refine F.ok AO (fun vs H Q E h=>?_) (fun cdv A outer s H vs Q E hr h=>?_)
 ·obtain ⟨a,c,st,v,n,ns,cs,rs,rfl,_⟩:=h
  rfl
 obtain ⟨a,c,st,v,n,ns,cs,rs,rfl,ha,hn,hv,hR,n4,hcl,hc,hcb,q⟩:=h
 refine ⟨_,(@n5 _ _ _ _ _ (ic (N:=["kind","counts","rule"]) (ix:=[none,some 2,some 1]) (ifs:=[]) (tc:=Q2) (i:=3) rfl AO.nd rfl rfl  (K3 rfl B.range (@b7 _ _ _ _ _ (t7 B7 rfl B.len A5 (@b7 _ _ _ _ _ (pv 0) d8 (by rfl))) d8 (by rfl)))
   (fun s H ex=>aE (i:=0) (by decide +kernel) rfl (Z7 rfl) (.inl rfl)) (fun s H ex=>F9) (fun s H ex=>(t7 (Jm (K:=K) rfl rfl) rfl B.sum qW (@b7 _ _ _ _ _ (J9 (N:=["many","row","kind"]) (ix:=[none,none,some 0]) (ifs:=[]) (tc:=Q2) rfl (uf (K:=K) rfl rfl B.zip (@b7 _ _ _ _ _ (pv 1) (@b7 _ _ _ _ _ (pv 2) d8 (by rfl)) (by rfl)))
   (fun s H ex=>Ej (K:=K) (n:=2) rfl rfl (S4 (aE (i:=0) (by decide +kernel) rfl (B5 rfl) (.inr rfl)) (S4 (aE (i:=1) (by decide +kernel) rfl (B5 rfl) (.inr rfl)) fH))) (fun s H ex=>F9) (fun s H ex=>(@A7 _ _ _ _ _ _ _ _ fJ (pv 0) (@G1 _ _ _ _ _ _ _ (ixK (K:=K) rfl) (pv 1) (pv 2) (fun _ _=>rfl)))) rfl (by decide +kernel) (by rfl) (by rfl) (fun _=>rfl)) d8 (by rfl)))) rfl (by decide +kernel) (by rfl) (by rfl) (fun _=>rfl) (by rfl))
  (@v5 _ _ _ (C7 (E6 K2 rfl B.tuple E7 (@b7 _ _ _ _ _ (J9 (N:=["balls","more"]) (ix:=[none,none]) (ifs:=[]) (tc:=Q2) rfl (Br rfl B.zip (@b7 _ _ _ _ _ (pv 0) (@b7 _ _ _ _ _ (pv 3) d8 (by rfl)) (by rfl)))
   (fun s H ex=>Ej (K:=K) (n:=2) rfl rfl (S4 (aE (i:=0) (by decide +kernel) rfl (B5 rfl) (.inr rfl)) (S4 (aE (i:=1) (by decide +kernel) rfl (B5 rfl) (.inr rfl)) fH))) (fun s H ex=>F9) (fun s H ex=>(@A7 _ _ _ _ _ _ _ _ P7 (pv 0) (pv 1))) rfl (by decide +kernel) (by rfl) (by rfl) (fun _=>rfl)) d8 (by rfl)))))),?_⟩
 obtain ⟨r,xs,er,_,hr2,hds⟩:=hv.untup
 subst er
 have hxl:=hds.len
 rw[b9,hR.len] at hxl
 refine ⟨_,rfl,a,_,rfl,.inr (.of ha),_,rfl,by rw[b9];lia,by rw[b9];lia,?_⟩
 have en:(((ns.map V.int).length:Nat):Int).toNat=n:=by rw[b9];lia
 rw[en]
 have bl:(N8 ns rs cs).length=n:=by unfold N8;simp[hn]
 have lx:(cs.map V.int).length=n:=by rw[b9];exact hcl
 refine O4 (lo:=0) (n:=n) (sz (by lia)) (fun i ys H2=>j7 H H2/\i<=n/\ys=(ml rs cs i).map V.int) ⟨j7.refl H,u9 _,rfl⟩ (fun i ys H2 h=>?_) rfl (fun i ys H2 hi h=>?_) (fun ys H2 h=>?_)
 ·obtain ⟨_,hi,rfl⟩:=h
  rw[b9,ub]
 ·obtain ⟨g2,hin,rfl⟩:=h
  have e0:(0:Int)+(i:Int)=(i:Int):=by lia
  rw[e0]
  refine ⟨_,rfl,_,rfl,c,r,cs.map V.int,xs,rfl,.of (g2 _ _ hr2),.inl ⟨.of (g2 _ _ hc),?_⟩⟩
  have hpl:(W5 i cs rs).length=n:=by unfold W5;rw[kM,hcl,hR.len];lia
  refine sS (K:=K) (a:=c) (b:=r) (xs:=cs.map V.int) (ys:=xs) (sz (by lia)) (by lia) (fun j zs H3=>j7 H H3/\j<=n/\zs=((W5 i cs rs).take j).map V.int) ⟨g2,u9 _,rfl⟩ (fun j zs H3 h=>?_) (fun j zs H3 _ h=>⟨.of (h.1 _ _ hc),.of (h.1 _ _ hr2)⟩) ⟨rfl,rfl⟩ (fun j zs H3 x y p hx hy hp h=>?_) (fun zs H3 h=>?_)
  ·obtain ⟨_,hj,rfl⟩:=h
   rw[b9,A4,hpl];lia
  ·obtain ⟨g3,hjn,rfl⟩:=h
   rw[n8] at hx
   obtain ⟨cj,hcj,ex⟩:=Option.map_eq_some_iff.mp hx
   subst ex
   obtain ⟨d,hd,dt⟩:=hds.get hy
   rw[n8] at hd
   obtain ⟨row,hrow,ed⟩:=Option.map_eq_some_iff.mp hd
   subst ed
   obtain ⟨rb,eb,_,hb⟩:=dt.di
   subst eb
   have hjl:=(List.getElem?_eq_some_iff.mp hcj).1
   have hrl:row.length=n:=(hR.row row (B0 hrow)).len
   have g4:=g3.trans (j7.new hp (o:=.tup [.int cj,.ref rb]))
   have hcb':=hcb cj (B0 hcj)
   refine ⟨_,rfl,_,rfl,_,rfl,rb,_,_,_,rfl,rfl,.of (g4 _ _ hb),bO (by lia),_,_,rfl,rfl,.inl ⟨by lia,by lia⟩,g4,by lia,?_⟩
   have e2:(W5 i cs rs)[j]?=some (cj*row.getD i 0):=by unfold W5;rw[jd,hcj,hrow]
   rw[C2,e2,n9];rfl
  ·rw[lx] at h
   obtain ⟨g3,_,rfl⟩:=h
   intro p hp
   rw[show (W5 i cs rs).take n=W5 i cs rs from R5 (by lia)]
   refine ⟨p,W5 i cs rs,rfl,.inl (.of f6),g3.trans (j7.new hp),by lia,?_⟩
   have e3:ml rs cs (i+1)=ml rs cs i++[(W5 i cs rs).sum]:=by
    unfold ml
    rw[iW,n9]
    congr 1
    show [jc rs i cs 0]=_
    rw[jA rs i cs 0 (by rw[hcl,hR.len];lia),eF]
   rw[e3,n9];rfl
 ·obtain ⟨g2,_,rfl⟩:=h
  intro pl hpl
  have g3:j7 H2 (t6 H2 pl (.lst ((ml rs cs n).map V.int))):=j7.new hpl
  have h3:t6 H2 pl (.lst ((ml rs cs n).map V.int)) pl=some (.lst ((ml rs cs n).map V.int)):=f6
  have g13:=g2.trans g3
  try dsimp -proj only[N7]
  generalize t6 H2 pl (.lst ((ml rs cs n).map V.int))=H3 at g3 h3 g13
  refine ⟨_,rfl,_,rfl,a,pl,_,_,rfl,.of (g13 _ _ ha),.of h3,?_⟩
  refine zS (K:=K) (a:=a) (b:=pl) (xs:=ns.map V.int) (ys:=(ml rs cs n).map V.int) (sz (by rw[b9];lia)) (by rw[b9,b9,ub];exact hn) (fun j zs H4=>j7 H3 H4/\j<=n/\zs=((N8 ns rs cs).take j).map V.int) ⟨j7.refl _,u9 _,rfl⟩ (fun j zs H4 h=>?_) (fun j zs H4 _ h=>⟨.of (h.1 _ _ (g13 _ _ ha)),.of (h.1 _ _ h3)⟩) ⟨rfl,rfl⟩ (fun j zs H4 x y p hx hy hp h=>?_) (fun zs H4 h=>?_)
  ·obtain ⟨_,hj,rfl⟩:=h
   rw[b9,A4,bl];lia
  ·obtain ⟨g4,hjn,rfl⟩:=h
   rw[n8] at hx hy
   obtain ⟨b0,hb0,ex⟩:=Option.map_eq_some_iff.mp hx
   obtain ⟨m0,hm0,ey⟩:=Option.map_eq_some_iff.mp hy
   subst ex ey
   have hjl:=(List.getElem?_eq_some_iff.mp hb0).1
   refine ⟨_,rfl,_,rfl,_,_,rfl,rfl,g4.trans (j7.new hp),by lia,?_⟩
   have e4:m0=jc rs j cs 0:=by
    unfold ml at hm0
    rw[n8,M6 (by lia)] at hm0
    injection hm0 with hm0;exact hm0.symm
   have e5:(N8 ns rs cs)[j]?=some (b0+m0):=by
    unfold N8
    rw[n8,M6 (by lia),Q6,e4,j6,hb0];rfl
   rw[C2,e5,n9];rfl
  ·obtain ⟨g4,_,rfl⟩:=h
   intro p hp
   refine ⟨p,_,rfl,.inl ⟨.of f6,fun l hl=>?_⟩⟩
   refine q l _ ((g13.trans g4).trans ((j7.new hp).trans (j7.new hl))) ?_
   rw[f6,b9,hn,<- bl,D8]
noncomputable def AH:Sp:=fun vs H Q _=>∃(c:Addr) (cs:List Int) (k:Nat),vs=[.ref c,.int k]/\H c=some (.tup (cs.map V.int))/\k<cs.length/\cs.length<=4/\∀p H',j7 H H'->H' p=some (.tup ((inc cs k).map V.int))->Q (.ref p) H'
noncomputable abbrev GC:Stmt:=eI 36
theorem Jr:C3 ["counts","kind"] ["counts","kind"] (v9 GC):=⟨rfl,rfl,rfl,by decide +kernel,rfl,by decide +kernel,by decide +kernel⟩
theorem JK (F:aY K "one_more" "one_more" GC f fd):M0 P w K mg base cH 1 f fd ["counts","kind"] AH:=by
 refine F.ok Jr (fun vs H Q E h=>?_) (fun cdv A outer s H vs Q E hr h=>?_)
 ·obtain ⟨c,cs,k,rfl,_⟩:=h
  rfl
 obtain ⟨ka,c,t,rfl,hka,htc,l4,q⟩:=h
 refine ⟨_,(@v5 _ _ _ (C7 (@A7 _ _ _ _ _ _ _ _ cf (@A7 _ _ _ _ _ _ _ _ cf (@G0 _ _ _ _ _ _ _ _ _ _ lN (pv 0) L6 (L5 (pv 1))) (@D0 _ _ _ _ _ (@b7 _ _ _ _ _ (@A7 _ _ _ _ _ _ _ _ P7 (@G1 _ _ _ _ _ _ _ N2 (pv 0) (pv 1) (fun _ _=>rfl)) j8) d8 (by rfl)))) (@G0 _ _ _ _ _ _ _ _ _ _ lN (pv 0) (L5 (@A7 _ _ _ _ _ _ _ _ P7 (pv 1) j8)) L6)))),?_⟩
 have l1:(c.map V.int).length=c.length:=by rw[b9]
 refine ⟨_,rfl,_,rfl,(t:Int),rfl,ka,_,rfl,hka,fun p1 Ha ga hp1=>?_⟩
 refine ⟨_,rfl,_,rfl,ka,_,_,_,rfl,rfl,.of (ga _ _ hka),bO htc,_,_,rfl,rfl,(by show 1<=i7;decide),fun p2 hp2=>?_⟩
 have gb:j7 Ha (t6 Ha p2 (.tup [.int (c.getD t 0+1)])):=j7.new hp2
 have hp2b:t6 Ha p2 (.tup [.int (c.getD t 0+1)]) p2=some (.tup [.int (c.getD t 0+1)]):=f6
 try dsimp only
 generalize t6 Ha p2 (.tup [.int (c.getD t 0+1)])=Hb at gb hp2b
 refine ⟨p1,p2,_,_,rfl,rfl,gb _ _ hp1,hp2b,?_,fun p3 Hc gc hp3=>?_⟩
 ·have:=U9 (c.map V.int) none (some (t:Int))
  rw[l1] at this
  simp only[r6,T7];lia
 refine ⟨_,rfl,_,rfl,_,_,rfl,rfl,((t:Int)+1),rfl,ka,_,rfl,(gb.trans gc) _ _ (ga _ _ hka),fun p4 Hd gd hp4'=>?_⟩
 refine ⟨p3,p4,_,_,rfl,rfl,gd _ _ hp3,hp4',?_,fun p5 He ge hp5=>?_⟩
 ·have h1:=U9 (c.map V.int) none (some (t:Int))
  have h2:=U9 (c.map V.int) (some ((t:Int)+1)) none
  rw[l1] at h1 h2
  rw[t8]
  simp only[r6,T7];lia
 have ethere:gC (c.map V.int) none (some (t:Int))++[V.int (c.getD t 0+1)]++gC (c.map V.int) (some ((t:Int)+1)) none=(inc c t).map V.int:=by
  rw[oq (by lia),show ((t:Int)+1)=((t+1:Nat):Int) by lia,ou (by lia),sy c t htc,n9,n9,vw,vy];rfl
 rw[ethere] at hp5
 exact q p5 He ((((ga.trans gb).trans gc).trans gd).trans ge) hp5
noncomputable def vW:Sp:=fun vs H Q _=>∃(d a ga st:Addr) (v:V) (n k E:Nat) (T:P2) (kvs:List (List V0 × V)) (ns gs:List Int) (rs:List (List Int)),vs=[.ref d,.ref a,v,.ref ga]/\H d=some (.dT kvs)/\QE H T kvs/\KC ns rs n k T/\k<=19/\T.length<=9300/\gD ns rs k E T/\E<=2 ^ 350 /\
 H a=some (.tup (ns.map V.int))/\ns.length=n/\H ga=some (.tup (gs.map V.int))/\gs.length=n/\Dt st H (DR rs) v/\Mt.ma n 5 rs/\1<=n/\n<=4 /\
 ∀p kvs' H',Kp d H H'->H p=none->H' p=some (.dT kvs')->QE H' (O1 ns rs gs T []) kvs'->Q (.ref p) H'
noncomputable abbrev AZ:Stmt:=eI 37
theorem gY:C3 ["chances","urn","rule","goal","later","counts","so_far","now","kind","behind","part"] ["chances","urn","rule","goal"] (v9 AZ):=⟨rfl,rfl,rfl,by decide +kernel,rfl,by decide +kernel,by decide +kernel⟩
theorem Hs (F:aY K "next_chances_by_counts" "next_chances_by_counts" AZ f fd) (B:Bt mg) (c1:S2 P w K mg base 1 "urn_by_counts" ["urn","rule","counts"] vT) (c2:S2 P w K mg base 1 "one_more" ["counts","kind"] AH) (c3:S2 P w K mg base 3 "times" ["one","other"] eQ) (c4:S2 P w K mg base 3 "share" ["urn","kind"] nq) (c5:S2 P w K mg base 3 "plus" ["one","other"] iG):M0 P w K mg base cH 4 f fd ["chances","urn","rule","goal"] vW:=by
 refine F.ok gY (fun vs H Q E h=>?_) (fun cdv A outer s H vs Q E hr h=>?_)
 ·obtain ⟨d,a,ga,st,v,n,k,E,T,kvs,ns,gs,rs,rfl,_⟩:=h
  rfl
 obtain ⟨d,a,ga,st,v,n,k,En,T,kvs,ns,gs,rs,rfl,hd,hQ,hK,hk5,hT,hE,hEn,ha,hnl,hga,hgl,hv,hR,n1,n4,q⟩:=h
 refine ⟨_,(@n5 _ _ _ _ _ (@D6 _ _ 4 _ _ _ _ gY.nd rfl (B5 rfl) ug (by rfl) (by first|exact .inl rfl|exact .inr rfl))
  (@n5 _ _ _ _ _ (eh K1 rfl (Bu (pv 0)) (rW rfl (S4 (U0 (i:=5) gY.nd rfl (B5 rfl)) (S4 (U0 (i:=6) gY.nd rfl (B5 rfl)) fH)))
  (@n5 _ _ _ _ _ (@D6 _ _ 7 _ _ _ _ gY.nd rfl (B5 rfl) (B8 (c1.up (by decide)) hr rfl (@b7 _ _ _ _ _ (pv 1) (@b7 _ _ _ _ _ (pv 2) (@b7 _ _ _ _ _ (pv 5) d8 (by rfl)) (by rfl)) (by rfl))) (by rfl) (by first|exact .inl rfl|exact .inr rfl))
  (@v5 _ _ _ (eh K1 rfl (K3 rfl B.range (@b7 _ _ _ _ _ (t7 B7 rfl B.len A5 (@b7 _ _ _ _ _ (pv 1) d8 (by rfl))) d8 (by rfl))) (U0 (i:=8) gY.nd rfl (B5 rfl))
  (@v5 _ _ _ (R0 (@N6 _ _ _ _ _ _ _ _ BD (@G1 _ _ _ _ _ _ _ N2 (pv 5) (pv 8) (fun _ _=>rfl)) (@G1 _ _ _ _ _ _ _ N2 (pv 3) (pv 8) (fun _ _=>rfl)) (M5 _)) (@n5 _ _ _ _ _ (@D6 _ _ 9 _ _ _ _ gY.nd rfl (B5 rfl) (B8 (c2.up (by decide)) hr rfl (@b7 _ _ _ _ _ (pv 5) (@b7 _ _ _ _ _ (pv 8) d8 (by rfl)) (by rfl))) (by rfl) (by first|exact .inl rfl|exact .inr rfl))
  (@n5 _ _ _ _ _ (@D6 _ _ 10 _ _ _ _ gY.nd rfl (B5 rfl) (B8 c3 hr rfl (@b7 _ _ _ _ _ (pv 6) (@b7 _ _ _ _ _ (B8 c4 hr rfl (@b7 _ _ _ _ _ (pv 7) (@b7 _ _ _ _ _ (pv 8) d8 (by rfl)) (by rfl))) d8 (by rfl)) (by rfl))) (by rfl) (by first|exact .inl rfl|exact .inr rfl))
  (@v5 _ _ _ (xM (lV hr) (pv 4) (pv 9) (B8 c5 hr rfl (@b7 _ _ _ _ _ (Bx (lV hr) (pv 4) (pv 9) (@D0 _ _ _ _ _ (@b7 _ _ _ _ _ j8 (@b7 _ _ _ _ _ j8 d8 (by rfl)) (by rfl))) ⟨rfl,rfl,rfl,rfl⟩) (@b7 _ _ _ _ _ (pv 10) d8 (by rfl)) (by rfl))) rfl)))) F6))))))
  (@v5 _ _ _ (C7 (pv 4))))),?_⟩
 have hv0:=CW hd hv
 intro lt hlt
 have nlt:d≠lt:=v8 hd hlt
 have ndt:∀(ps:List (List V0 × V)) xs,HO.dT ps≠.tup xs:=fun _ _ z=>by cases z
 refine ⟨_,rfl,d,kvs,rfl,(by rw[B6 nlt];exact hd),fun o=>?_⟩
 have k0:Kp d H (t6 (t6 H lt (.dT [])) d (.frz o (.dT kvs))):=fun b u nb e=>by rw[B6 nb,B6 (v8 e hlt)];exact e
 refine zG (o:=o) (fun i σ H2=>Kp d H H2/\H2 d=some (.frz o (.dT kvs))/\(∃ks,H2 lt=some (.dT ks)/\QE H2 (O1 ns rs gs (T.take i) []) ks)/\i<=T.length/\∃o5 o6 o7 o8 o9 oa,σ=[some (.ref d),some (.ref a),some v,some (.ref ga),some (.ref lt),o5,o6,o7,o8,o9,oa])
  ⟨k0,f6,⟨[],by rw[B6 nlt.symm,f6],trivial⟩,u9 _,none,none,none,none,none,none,rfl⟩ (fun i σ H2 _ h=>h.2.1) (fun i kk x σ H2 p ka hx hp hka h=>?_) (fun σ H2 h=>?_)
 ·obtain ⟨k2,hd2,⟨ks2,hl2,hq2⟩,hi,o5,o6,o7,o8,o9,oa,rfl⟩:=h
  obtain ⟨um,hum,ek,xq,ex,hxq⟩:=hQ.get hx
  subst ek ex
  obtain ⟨c,mm⟩:=um
  simp only at hka hxq
  have hil:=(List.getElem?_eq_some_iff.mp hum).1
  have hkc:Cn ns rs n k c:=hK (c,mm) (B0 hum)
  have hmm:Ww ns rs k En c mm:=hE (c,mm) (B0 hum)
  rw[qw] at hka
  refine ⟨p,_,rfl,.of f6,rfl,_,_,rfl,_,_,rfl,rfl,?_⟩
  have g3:j7 H2 (t6 H2 p (.tup [.ref ka,.ref xq])):=j7.new hp
  try dsimp -proj only[N7]
  generalize t6 H2 p (.tup [.ref ka,.ref xq])=H3 at g3
  have k3:Kp d H H3:=k2.trans (g3.kp d)
  have ha3:=dq hd (ndt _) k3 _ _ ha
  have hga3:=dq hd (ndt _) k3 _ _ hga
  refine ⟨_,rfl,_,rfl,_,rfl,a,ka,d,v,n,ns,c,rs,rfl,ha3,hnl,hv0.kp k3,hR,n4,hkc.len,g3 _ _ hka,(fun x hx=>by have:=hkc.nn x hx;lia),fun pn H4 g4 hpn=>?_⟩
  have k4:Kp d H H4:=k3.trans (g4.kp d)
  have hl4:=g4 _ _ (g3 _ _ hl2)
  have hd4:=g4 _ _ (g3 _ _ hd2)
  have ha4:=g4 _ _ ha3
  have hga4:=g4 _ _ hga3
  have hka4:H4 ka=some (.tup (c.map V.int)):=g4 _ _ (g3 _ _ hka)
  have hq4:QE H4 (O1 ns rs gs (T.take i) []) ks2:=hq2.mono fun a xs e=>g4 _ _ (g3 _ _ e)
  have hx4:H4 xq=some (.tup ((fr mm).map V.int)):=dq hd (ndt _) k4 _ _ hxq
  have hKt:KC ns rs n k (T.take i):=fun q hq=>hK q (ae hq)
  obtain ⟨kk1,kk2,_⟩:=BS (g:=gs) hnl hR (T.take i) (D:=[]) hKt (fun p hp=>by simp at hp) (by unfold qK;simp)
  have kk3:=BR (g:=gs) hnl hR n4 (T.take i) (D:=[]) (B:=0) hKt (fun q hq=>hE q (ae hq)) (fun p hp=>by simp at hp)
  have hti:(T.take i).length<=9300:=by rw[A4];lia
  have hU:=hkc.urn
  have hs0:=hU.pos
  have hs1:(N8 ns rs c).sum<=4096:=by
   have:=Mt.sum_le (m:=((20+5*k:Nat):Int)) (fun y hy=>(hU.nn y hy).2)
   rw[hU.len] at this
   have h4:((20+5*k:Nat):Int)*(n:Int)<=((20+5*k:Nat):Int)*4:=cZ (by lia) (by lia)
   generalize ((20+5*k:Nat):Int)*(n:Int)=z at this h4
   lia
  refine ⟨_,rfl,a,_,rfl,.inr (.of ha4),(n:Int),by rw[b9,hnl],by lia,by lia,?_⟩
  refine iP (lo:=0) (n:=n) (fun j σ H5=>Kp lt H4 H5/\(∃ks,H5 lt=some (.dT ks)/\QE H5 (Y2 mm (N8 ns rs c).sum (kN ns rs gs c j) (O1 ns rs gs (T.take i) [])) ks)/\j<=n/\∃o8 o9 oa,σ=[some (.ref d),some (.ref a),some v,some (.ref ga),some (.ref lt),some (.ref ka),some (.ref xq),some (.ref pn),o8,o9,oa])
   ⟨Kp.refl _ _,⟨ks2,hl4,hq4⟩,u9 _,o8,o9,oa,rfl⟩ (fun j σ H5 hj h=>?_) (fun σ H5 h=>?_)
  ·obtain ⟨k5,⟨ks5,hl5,hq5⟩,hjn,o8,o9,oa,rfl⟩:=h
   have e0:(0:Int)+(j:Int)=(j:Int):=by lia
   rw[e0]
   have t45:=dq hl4 (ndt _) k5
   have hx5:=t45 _ _ hx4
   have hka5:=t45 _ _ hka4
   have hga5:=t45 _ _ hga4
   have hpn5:=t45 _ _ hpn
   obtain ⟨pp1,pp2,_⟩:=Bk (k:=k+1) (x:=mm) (s:=(N8 ns rs c).sum) (kN ns rs gs c j) (fun b hb=>(CG hnl hR hkc (by lia) b hb).2) kk1 kk2
   have pp3:=Bj (i:=0) hnl hR n4 hkc hmm (kN ns rs gs c j) (fun b hb=>by obtain ⟨jj,hjj,e⟩:=mM hb;exact ⟨jj,by lia,e⟩) kk3
   have hjt:=sQ ns rs gs c j
   have hEb:0+En*(4*(T.take i).length)+En*(kN ns rs gs c j).length<=2 ^ 400:=by
    rw[ar,<- fV,show 2 ^ 400=2 ^ 350*2 ^ 50 from by rw[<- R9]]
    exact D5 hEn (by show _<=1125899906842624;lia)
   have hlen:(Y2 mm (N8 ns rs c).sum (kN ns rs gs c j) (O1 ns rs gs (T.take i) [])).length<=10000:=m8 (FG n1 n4 (by lia) pp1 pp2 pp3) (by decide)
   refine ⟨_,rfl,_,rfl,ka,_,_,_,rfl,rfl,.of hka5,bO (by rw[hkc.len];exact hj),_,rfl,_,rfl,ga,_,_,_,rfl,rfl,.of hga5,bO (by rw[hgl];exact hj),_,_,rfl,rfl,_,rfl,?_⟩
   have hsu:=oA ns rs gs c j
   by_cases hlt2:c.getD j 0<gs.getD j 0
   ·rw[decide_eq_true hlt2]
    rw[if_pos hlt2] at hsu
    refine P8 ?_
    have hsh:Mt.AL (N8 ns rs c) j=cut ((N8 ns rs c).getD j 0) (N8 ns rs c).sum:=rfl
    have cnn:0<=(cut ((N8 ns rs c).getD j 0) (N8 ns rs c).sum).num:=CB (hU.getD j).1 hs0
    have cb:Bd 12 (cut ((N8 ns rs c).getD j 0) (N8 ns rs c).sum):=Bd.cut hs0 (by have:=hU.getD j;have:=aB hU j;show _<=4096;lia) (by show _<=4096;lia)
    have hEn4:En<=2 ^ 400:=m8 hEn (w5 (by decide) (by decide))
    have d1:Bd 5700 mm:=hmm.bd (by lia) hEn4
    have hw2:=hmm.inc hnl hR n4 hkc hj
    have d2:Bd 5700 (mm*cut ((N8 ns rs c).getD j 0) (N8 ns rs c).sum):=hw2.bd (by lia) hEn4
    obtain ⟨_,_,_,mnn⟩:=hmm.vq (by lia)
    obtain ⟨_,_,_,pnn⟩:=hw2.vq (by lia)
    obtain ⟨vnn,d3⟩:=pp3.val (n:=n) (c:=inc c j) (by lia) hEb
    refine ⟨_,rfl,_,rfl,ka,c,j,rfl,hka5,by rw[hkc.len];exact hj,by rw[hkc.len];exact n4,fun p6 H6 g6 hp6=>?_⟩
    refine ⟨_,rfl,_,rfl,_,rfl,pn,n,20+5*k,N8 ns rs c,j,rfl,g6 _ _ hpn5,hU,n4,by lia,hj,fun p7 H7 g7 hp7=>?_⟩
    refine ⟨xq,p7,mm,cut ((N8 ns rs c).getD j 0) (N8 ns rs c).sum,5700,12,rfl,g7 _ _ (g6 _ _ hx5),hp7,Rat.num_nonneg.mpr mnn.nn,cnn,d1,cb,by decide,fun p8 H8 g8 hp8=>?_⟩
    have g58:=(g6.trans g7).trans g8
    have hl8:=g58 _ _ hl5
    have hp6':H6 p6=some (.tup ((kI (inc c j)).map kV)):=by rw[qw];exact hp6
    have hw8:=(g7.trans g8) _ _ hp6'
    refine ⟨_,rfl,lt,rfl,.inr ⟨_,.inl hl8⟩,_,rfl,(by show 2<=i7;decide),fun p9 hp9=>?_⟩
    have g9:j7 H8 (t6 H8 p9 (.tup [.int 0,.int 1])):=j7.new hp9
    have hz9:oH (t6 H8 p9 (.tup [.int 0,.int 1])) 0 (.ref p9):=⟨p9,rfl,f6⟩
    try dsimp -proj only
    generalize t6 H8 p9 (.tup [.int 0,.int 1])=H9 at g9 hz9
    have hl9:=g9 _ _ hl8
    have hw9:=g9 _ _ hw8
    have hq9:QE H9 (Y2 mm (N8 ns rs c).sum (kN ns rs gs c j) (O1 ns rs gs (T.take i) [])) ks5:=hq5.mono fun a xs e=>g9 _ _ (g58 _ _ e)
    obtain ⟨r9,er9,hr9⟩:=hq9.val (k:=inc c j) hz9
    refine ⟨_,jC.t hl9 hw9,?_⟩
    rw[er9]
    refine ⟨_,rfl,r9,p8,_,mm*cut ((N8 ns rs c).getD j 0) (N8 ns rs c).sum,5700,5700,rfl,hr9,g9 _ _ hp8,Rat.num_nonneg.mpr vnn,Rat.num_nonneg.mpr pnn.nn,d3,d2,by decide,fun pa Ha gA hpa=>?_⟩
    have g5a:j7 H5 Ha:=g58.trans (g9.trans gA)
    have hla:=gA _ _ hl9
    have hwa:=gA _ _ hw9
    have hqa:QE Ha (Y2 mm (N8 ns rs c).sum (kN ns rs gs c j) (O1 ns rs gs (T.take i) [])) ks5:=hq9.mono fun a xs e=>gA _ _ e
    refine ⟨_,rfl,_,rfl,lt,_,rfl,zW.t hla hwa (by rw[hqa.len];exact zb hlen),?_⟩
    have hqb:=hqa.put (k:=inc c j) (x:=mm*cut ((N8 ns rs c).getD j 0) (N8 ns rs c).sum) (v:=.ref pa) pp2 ⟨pa,rfl,hpa⟩
    have kb:Kp lt H4 (t6 Ha lt (.dT (iZ ks5 (kI (inc c j)) (.ref pa)))):=(k5.trans (g5a.kp lt)).trans Kp.at
    refine ⟨kb,⟨_,f6,?_⟩,by lia,_,_,_,rfl⟩
    rw[hsu,nP]
    exact hqb.mono (dq hla (ndt _) Kp.at)
   ·rw[decide_eq_false hlt2]
    rw[if_neg hlt2] at hsu
    refine Q3 ⟨k5,⟨ks5,hl5,by rw[hsu];exact hq5⟩,by lia,_,_,_,rfl⟩
  ·obtain ⟨k5,⟨ks5,hl5,hq5⟩,_,o8,o9,oa,rfl⟩:=h
   have hlt2:H lt=none:=hlt
   refine ⟨fun c o nc e=>k5 _ _ (v8 e hlt2) (k4 _ _ nc e),k5 _ _ nlt hd4,⟨ks5,hl5,?_⟩,hil,_,_,_,_,_,_,rfl⟩
   rw[C2,hum]
   show QE H5 (O1 ns rs gs (T.take i++[(c,mm)]) []) ks5
   rw[lQ,hnl]
   exact hq5
 ·obtain ⟨k2,hd2,⟨ks2,hl2,hq2⟩,_,o5,o6,o7,o8,o9,oa,rfl⟩:=h
  rw[hQ.len,D8] at hq2
  exact ⟨_,rfl,q lt ks2 H2 k2 hlt hl2 hq2⟩
noncomputable def vZ:Sp:=fun vs H Q _=>∃(a ga st:Addr) (v:V) (n k:Nat) (ns gs:List Int) (rs:List (List Int)),vs=[.ref a,v,.ref ga,.int k]/\H a=some (.tup (ns.map V.int))/\Mt.mv n 20 ns/\H ga=some (.tup (gs.map V.int))/\gs.length=n/\Dt st H (DR rs) v/\Mt.ma n 5 rs/\1<=n/\n<=4/\k<=20 /\
 ∀p kvs H',j7 H H'->H p=none->H' p=some (.dT kvs)->QE H' (pL ns rs gs k) kvs->Q (.ref p) H'
noncomputable abbrev Be:Stmt:=eI 38
theorem rF:C3 ["urn","rule","goal","draws","chances","turn"] ["urn","rule","goal","draws"] (v9 Be):=⟨rfl,rfl,rfl,by decide +kernel,rfl,by decide +kernel,by decide +kernel⟩
theorem HH (F:aY K "chances_by_counts" "chances_by_counts" Be f fd) (B:Bt mg) (c1:S2 P w K mg base 4 "next_chances_by_counts" ["chances","urn","rule","goal"] vW):M0 P w K mg base cH 5 f fd ["urn","rule","goal","draws"] vZ:=by
 refine F.ok rF (fun vs H Q E h=>?_) (fun cdv A outer s H vs Q E hr h=>?_)
 ·obtain ⟨a,ga,st,v,n,k,ns,gs,rs,rfl,_⟩:=h
  rfl
 obtain ⟨a,ga,st,v,n,k,ns,gs,rs,rfl,ha,hU,hga,hgl,hv,hR,n1,n4,k6,q⟩:=h
 refine ⟨_,(@n5 _ _ _ _ _ (@D6 _ _ 4 _ _ _ _ rF.nd rfl (B5 rfl) (GR (lV hr) (@A7 _ _ _ _ _ _ _ _ Ee (@D0 _ _ _ _ _ (@b7 _ _ _ _ _ j8 d8 (by rfl))) (t7 B7 rfl B.len A5 (@b7 _ _ _ _ _ (pv 0) d8 (by rfl)))) (@D0 _ _ _ _ _ (@b7 _ _ _ _ _ j8 (@b7 _ _ _ _ _ j8 d8 (by rfl)) (by rfl)))) (by rfl) (by first|exact .inl rfl|exact .inr rfl))
  (@n5 _ _ _ _ _ (eh K1 rfl (K3 rfl B.range (@b7 _ _ _ _ _ (pv 3) d8 (by rfl))) (U0 (i:=5) rF.nd rfl (B5 rfl))
  (@v5 _ _ _ (@D6 _ _ 4 _ _ _ _ rF.nd rfl (B5 rfl) (B8 c1 hr rfl (@b7 _ _ _ _ _ (pv 4) (@b7 _ _ _ _ _ (pv 0) (@b7 _ _ _ _ _ (pv 1) (@b7 _ _ _ _ _ (pv 2) d8 (by rfl)) (by rfl)) (by rfl)) (by rfl))) (by rfl) (by first|exact .inl rfl|exact .inr rfl))))
  (@v5 _ _ _ (C7 (pv 4))))),?_⟩
 intro p hp
 have g1:j7 H (t6 H p (.dT [])):=j7.new hp
 have hp1:t6 H p (.dT []) p=some (.dT []):=f6
 generalize t6 H p (.dT [])=H1 at g1 hp1
 refine ⟨(by show 1<=i7;decide),fun z0 hz0=>?_⟩
 have g2:j7 H1 (t6 H1 z0 (.tup [.int 0])):=j7.new hz0
 have hz2:t6 H1 z0 (.tup [.int 0]) z0=some (.tup [.int 0]):=f6
 try dsimp -proj only
 generalize t6 H1 z0 (.tup [.int 0])=H2 at g2 hz2
 refine ⟨_,rfl,a,_,rfl,.inr (.of ((g1.trans g2) _ _ ha)),z0,.int 0,n,rfl,(by rw[b9,hU.len]),hz2,n1,n4,fun b H3 g3 hb=>⟨(by show 2<=i7;decide),fun c hc=>?_⟩⟩
 have g4:j7 H3 (t6 H3 c (.tup [.int 1,.int 1])):=j7.new hc
 have hc4:t6 H3 c (.tup [.int 1,.int 1]) c=some (.tup [.int 1,.int 1]):=f6
 try dsimp -proj only
 generalize t6 H3 c (.tup [.int 1,.int 1])=H4 at g4 hc4
 have hp4:=g4 _ _ (g3 _ _ (g2 _ _ hp1))
 have hb4:H4 b=some (.tup ((kI (m6 n 0)).map kV)):=by
  rw[qw,X1];exact g4 _ _ hb
 have gg:j7 H H4:=((g1.trans g2).trans g3).trans g4
 have ndt:∀(ps:List (List V0 × V)) xs,HO.dT ps≠.tup xs:=fun _ _ z=>by cases z
 refine ⟨hp4,b,kI (m6 n 0),rfl,hb4,?_⟩
 have wo:=fun j hj=>KJ gs hR n1 n4 hU j hj
 refine ⟨_,rfl,(k:Int),rfl,by lia,by lia,?_⟩
 refine iP (lo:=0) (n:=k) (fun j σ H3=>j7 H H3/\j<=k/\∃p kvs o5,H p=none/\H3 p=some (.dT kvs)/\QE H3 (pL ns rs gs j) kvs/\σ=[some (.ref a),some v,some (.ref ga),some (.int k),some (.ref p),o5])
  ⟨fun c o e=>by rw[B6 (v8 e hp)];exact gg _ _ e,u9 _,p,_,none,hp,f6,⟨by rw[hU.len],⟨c,rfl,dq hp4 (ndt _) Kp.at _ _ hc4⟩,trivial⟩,rfl⟩ (fun j σ H3 hj h=>?_) (fun σ H3 h=>?_)
 ·obtain ⟨g3,hjk,p,kvs,o5,hpn,hp3,hq3,rfl⟩:=h
  obtain ⟨w1,w2,w3,w4⟩:=wo j (by lia)
  have hj5:j<=19:=by lia
  have e2:2 ^ (16*j)<=2 ^ 350:=w5 (by decide) (by lia)
  refine ⟨_,rfl,_,rfl,_,rfl,_,rfl,p,a,ga,st,v,n,j,2 ^ (16*j),_,kvs,ns,gs,rs,rfl,hp3,hq3,w1,hj5,w4,w3,e2,g3 _ _ ha,hU.len,g3 _ _ hga,hgl,hv.kp (g3.kp st),hR,n1,n4,fun p' kvs' H4 k4 hp' h4 hq4=>?_⟩
  have g4:j7 H H4:=fun c o e=>k4 _ _ (v8 e hpn) (g3 _ _ e)
  exact ⟨g4,by lia,p',kvs',_,g3.free hp',h4,hq4,rfl⟩
 ·obtain ⟨g3,_,p,kvs,o5,hpn,hp3,hq3,rfl⟩:=h
  exact ⟨_,rfl,q p kvs H3 g3 hpn hp3 hq3⟩
end
end G
set_option maxHeartbeats 1000000
namespace So
open PySem PyProof.Rows
section
variable {prog:j9}{w:t9}{A:v7}{E:d6->d7->Prop}{s:d7}{rk:E9->Int}{M:E9->Prop}{κ:aD}
noncomputable def Kw (prog:j9) (w:t9) (A:v7) (s:d7) (rk:E9->Int) (M:E9->Prop) (κ:aD):Prop:=∀x y:E9,M x->M y->∀Q:Bool->d7->Prop,Q (decide (rk x<rk y)) s->r0 (y6 prog w) A (keyLt' κ x.1 y.1) Q (fun _ _=>False) s
theorem Gc {x y:E9}{st:gw}{Q:Option Bool->gw->Prop} (hA:Kw prog w A s rk M κ) (hk:kindOf st=κ) (hx:M x) (hy:M y) (h:Q (some (decide (rk x<rk y))) st):wpS (y6 prog w) A E s (lt' x y) Q st:=by
 rw[lt'_eq]
 refine P5 (DB ?_)
 rw[hk]
 refine P5 (wpS_lift (bt (F0 (hA x y hx hy (fun b s'=>s'=s/\b=decide (rk x<rk y)) ⟨rfl,rfl⟩) (fun b s' hb=>⟨hb.1,?_⟩) fun _ _ z=>z.elim)))
 obtain ⟨_,rfl⟩:=hb
 exact bq h
theorem tK {arr:Array E9}{i:Nat}{x:E9}{st:gw}{Q:E9->gw->Prop} (h:arr[i]?=some x) (q:Q x st):wpS (y6 prog w) A E s (elem' arr i) Q st:=by
 rw[elem'_eq,h]
 exact bq q
end
noncomputable def Up (rk:E9->Int) (l:List E9):Prop:=l.Pairwise fun x y=>rk x<=rk y
structure Mg (rk:E9->Int) (la lb O:List E9) (ia ib:Nat):Prop where
 perm:O.Perm (la.take ia++lb.take ib)
 up:Up rk O
 low:∀x∈O,∀y∈la.drop ia++lb.drop ib,rk x<=rk y
set_option maxHeartbeats 4000000
noncomputable def Gl (st st':gw):Prop:=kindOf st'=kindOf st/\vn st'=vn st/\KS st'=KS st/\qU st'=qU st
section
variable {rk:E9->Int}{a b out:Array E9}{ia ib:Nat}
theorem Cp {i:Nat} (h:i<a.size):∃x,a[i]?=some x/\x∈a.toList:=⟨a[i],Array.getElem?_eq_getElem h,Array.getElem_mem_toList h⟩
end
section
variable {prog:j9}{w:t9}{A:v7}{E:d6->d7->Prop}{s:d7}{rk:E9->Int}{M:E9->Prop}{κ:aD}
end
section
variable {prog:j9}{w:t9}{A:v7}{E:d6->d7->Prop}{s:d7}{rk:E9->Int}{M:E9->Prop}{κ:aD}
end
structure Mh (rk:E9->Int) (la lb O:List E9) (na nb:Nat):Prop where
 perm:O.Perm (la.drop na++lb.drop nb)
 up:Up rk O
 hi:∀x∈la.take na++lb.take nb,∀y∈O,rk x<=rk y
section
variable {rk:E9->Int}{a b out:Array E9}{na nb:Nat}
end
section
variable {prog:j9}{w:t9}{A:v7}{E:d6->d7->Prop}{s:d7}{rk:E9->Int}{M:E9->Prop}{κ:aD}
end
section
variable {prog:j9}{w:t9}{A:v7}{E:d6->d7->Prop}{s:d7}{rk:E9->Int}{M:E9->Prop}{κ:aD}
end
section
variable {prog:j9}{w:t9}{A:v7}{E:d6->d7->Prop}{s:d7}{rk:E9->Int}{M:E9->Prop}{κ:aD}
end
noncomputable def Kv (rk:E9->Int) (arr:Array E9) (i:Nat):Int:=rk ((arr[i]?).getD (D9,D9))
variable {rk:E9->Int}{a:Array E9}{i j:Nat}
theorem Kv.congr {b:Array E9}(h:a[i]?=b[j]?):Kv rk a i=Kv rk b j:=by unfold Kv;rw[h]
noncomputable def EZ (rk:E9->Int) (arr:Array E9) (lo n:Nat):Prop:=∀i j,lo<=i->i<=j->j<lo+n->Kv rk arr i<=Kv rk arr j
structure Fc (lo:Nat) (a b:Array E9):Prop where
 perm:b.toList.Perm a.toList
 low:∀i,i<lo->b[i]?=a[i]?
theorem Fc.size {lo:Nat}{a b:Array E9} (h:Fc lo a b):b.size=a.size:=by have:=h.perm.length_eq;simpa using this
theorem Fc.mirror {lo:Nat}(hi:lo<=i) (hj:j<=a.size):Fc lo a (yN a i j ((j - i) / 2)):=
 ⟨Array.perm_iff_toList_perm.mp (mirror_perm a i j _),fun k hk=>by rw[Iu hj,if_neg (by lia)]⟩
theorem Kv.mirror (hj:j<=a.size) (k:Nat):Kv rk (yN a i j ((j - i) / 2)) k=if i<=k/\k<j then Kv rk a (i+j - 1 - k) else Kv rk a k:=by
 have e:=Iu (i:=i) hj k
 by_cases h1:i<=k/\k<j
 ·rw[if_pos h1] at e ⊢;exact Kv.congr e
 ·rw[if_neg h1] at e ⊢;exact Kv.congr e
section
variable {prog:j9}{w:t9}{A:v7}{E:d6->d7->Prop}{s:d7}{rk:E9->Int}{M:E9->Prop}{κ:aD}{pd:Array (Nat × Nat × Nat)}{mg:Nat}
theorem sq {arr:Array E9}{i j:Nat}{Q:Option Bool->gw->Prop} (hA:Kw prog w A s rk M κ) (m:∀x∈arr.toList,M x) (hi:i<arr.size) (hj:j<arr.size) (h:Q (some (decide (Kv rk arr i<Kv rk arr j))) (Q5 κ arr pd mg none)):wpS (y6 prog w) A E s (ltAt' i j) Q (Q5 κ arr pd mg none):=by
 obtain ⟨x,hx,mx⟩:=Cp (a:=arr) hi
 obtain ⟨y,hy,my⟩:=Cp (a:=arr) hj
 have e1:Kv rk arr i=rk x:=by unfold Kv;rw[hx];rfl
 have e2:Kv rk arr j=rk y:=by unfold Kv;rw[hy];rfl
 rw[e1,e2] at h
 rw[ltAt'_eq]
 refine P5 (DB ?_)
 exact P5 (tK hx (P5 (tK hy (Gc hA rfl (m x mx) (m y my) h))))
theorem vg {arr:Array E9}{st:gw}{lo a nrem:Nat}{f:Nat->Option (Option Nat) × Nat->StateT gw Sem (ForInStep (Option (Option Nat) × Nat))}{Q:Option (Option Nat) × Nat->gw->Prop}
  (hstep:∀(x n:Nat) (R:ForInStep (Option (Option Nat) × Nat)->gw->Prop),1<=n->n<nrem->(Kv rk arr (lo+n)<Kv rk arr (lo+n - 1)->R (.done (none,n)) st)->(¬ Kv rk arr (lo+n)<Kv rk arr (lo+n - 1)->R (.yield (none,n+1)) st)->wpS (y6 prog w) A E s (f x (none,n)) R st)
  (ha:1<=a) (han:a<=nrem) (hs:EZ rk arr lo a) (h:∀n,a<=n->n<=nrem->EZ rk arr lo n->(n=nrem ∨ Kv rk arr (lo+n)<Kv rk arr (lo+n - 1))->Q (none,n) st):wpS (y6 prog w) A E s (forIn [a:nrem] (none,a) f) Q st:=by
 refine qL (I:=fun x c st'=>st'=st/\c=(none,x)/\EZ rk arr lo x) ?_ ?_ ⟨rfl,rfl,hs⟩
 ·rintro x c st' hax hxn ⟨rfl,rfl,hs'⟩
  refine hstep x x _ (by lia) hxn (fun hlt=>h x hax (by lia) hs' (.inr hlt)) (fun hlt=>⟨rfl,rfl,fun i j hi hij hj=>?_⟩)
  by_cases hjx:j<lo+x
  ·exact hs' i j hi hij hjx
  ·have hj':j=lo+x:=by lia
   subst hj'
   by_cases hi':i=lo+x
   ·subst hi';exact pP _
   ·exact Lf (hs' i (lo+x - 1) hi (by lia) (by lia)) (Int.not_lt.mp hlt)
 ·rintro c st' ⟨rfl,rfl,hs'⟩
  rw[show max a nrem=nrem by lia] at hs' ⊢
  exact h nrem han (i9 _) hs' (.inl rfl)
end
section
variable {prog:j9}{w:t9}{A:v7}{E:d6->d7->Prop}{s:d7}{rk:E9->Int}{M:E9->Prop}{κ:aD}{pd:Array (Nat × Nat × Nat)}{mg:Nat}
end
theorem Gr {arr:Array E9}{lo n:Nat} (h:EZ rk arr lo n) (hN:lo+n<=arr.size):Up rk ((arr.toList.drop lo).take n):=by
 refine List.pairwise_iff_getElem.mpr fun i j hi hj hij=>?_
 have hj':j<n:=by rw[A4] at hj;lia
 have e:∀k (hk:k<((arr.toList.drop lo).take n).length),rk (((arr.toList.drop lo).take n)[k])=Kv rk arr (lo+k):=fun k hk=>by
  have hk':k<n:=by rw[A4] at hk;lia
  have e1:((arr.toList.drop lo).take n)[k]?=arr[lo+k]?:=by rw[Dp,if_pos hk',List.getElem?_drop];simp
  unfold Kv
  rw[<- e1,d9 hk];rfl
 rw[e i hi,e j hj]
 exact h _ _ (by lia) (by lia) (by lia)
section
variable {prog:j9}{w:t9}{A:v7}{E:d6->d7->Prop}{s:d7}{rk:E9->Int}{M:E9->Prop}{κ:aD}
end
end So
namespace So
open PySem PyProof.Rows PySem.Spec L2
section
variable {prog:j9}{w:t9}{A:v7}{E:d6->d7->Prop}{s:d7}{rk:E9->Int}{M:E9->Prop}{κ:aD}
end
end So
namespace L2
open PySem PySem.Spec PyProof.Rows HT
theorem iO:∀a:List Int,N0 a a=false
 | []=>rfl
 | x::a=>by rw[V8,if_pos rfl];exact iO a
theorem ya:∀{a b:List Int},N0 a b=false->N0 b a=false->a=b
 | [],[],_,_=>rfl
 | [],_::_,h,_=>by rw[iu] at h;cases h
 | _::_,[],_,h=>by rw[iu] at h;cases h
 | x::a,y::b,h,k=>by
  rw[V8] at h k
  by_cases e:x=y
  ·rw[if_pos e] at h
   rw[if_pos e.symm] at k
   rw[e,ya h k]
  ·rw[if_neg e,decide_eq_false_iff_not] at h
   rw[if_neg fun z=>e z.symm,decide_eq_false_iff_not] at k
   lia
theorem iM:∀{a b c:List Int},N0 a b=true->N0 b c=true->N0 a c=true
 | [],[],[],h,_=>by cases h
 | [],_::_,[],_,k=>by rw[dm] at k;cases k
 | [],_,_::_,_,_=>rfl
 | x::a,[],_,h,_=>by rw[dm] at h;cases h
 | x::a,y::b,[],_,k=>by rw[dm] at k;cases k
 | x::a,y::b,z::c,h,k=>by
  rw[V8] at h k ⊢
  by_cases e1:x=y
  ·rw[if_pos e1] at h
   by_cases e2:y=z
   ·rw[if_pos e2] at k
    rw[if_pos (e1.trans e2)]
    exact iM h k
   ·rw[if_neg e2,decide_eq_true_iff] at k
    rw[if_neg (by lia),decide_eq_true_iff];lia
  ·rw[if_neg e1,decide_eq_true_iff] at h
   by_cases e2:y=z
   ·rw[if_neg (by lia),decide_eq_true_iff];lia
   ·rw[if_neg e2,decide_eq_true_iff] at k
    rw[if_neg (by lia),decide_eq_true_iff];lia
noncomputable def nN (ks:List (List Int)) (k:List Int):Nat:=ks.countP fun z=>N0 z k
theorem xJ {ks:List (List Int)}{a b:List Int} (ha:a∈ks) (h:N0 a b=true):nN ks a<nN ks b:=by
 unfold nN
 have mono:∀l:List (List Int),l.countP (fun z=>N0 z a)<=l.countP (fun z=>N0 z b):=fun l=>List.countP_mono_left fun z _ hz=>iM hz h
 induction ks with
 | nil=>cases ha
 | cons z ks ih =>
  rw[oQ,oQ]
  rcases List.mem_cons.mp ha with e|e
  ·subst e
   rw[if_neg (by rw[iO];decide),if_pos h]
   have:=mono ks
   lia
  ·have:=ih e
   by_cases hz:N0 z a=true
   ·rw[if_pos hz,if_pos (iM hz h)];lia
   ·rw[if_neg hz]
    split <;> lia
theorem tY {ks:List (List Int)}{a b:List Int} (ha:a∈ks) (hb:b∈ks):decide ((nN ks a:Int)<(nN ks b:Int))=N0 a b:=by
 cases h:N0 a b with
 | true=>exact decide_eq_true (by have:=xJ ha h;lia)
 | false =>
  refine decide_eq_false fun z=>?_
  cases h2:N0 b a with
  | true=>have:=xJ hb h2;lia
  | false=>rw[ya h h2] at z;lia
section
variable {prog:j9}{w:t9}{A:v7}{E:d6->d7->Prop}{s:d7}
noncomputable def iy (h:Heap) (v:d6) (ns:List Int):Prop:=∃(a:Addr) (us:List d6),v=.ref a/\Ds h a us.toArray/\fj us ns
theorem yi:∀{us:List d6}{ns:List Int}{j:Nat}{v:d6},fj us ns->us[j]?=some v->∃t,v=mR (ns.getD j 0) t
 | _,_,0,v,.cons _ _ _,e=>by cases e;exact ⟨_,rfl⟩
 | _,_,j+1,v,.cons _ _ t,e=>by
  obtain ⟨t',h⟩:=yi (j:=j) t (by simpa using e)
  exact ⟨t',by rw[h];rfl⟩
theorem kj:∀{us:List d6}{ns:List Int},fj us ns->us.length=ns.length
 | _,_,.nil=>rfl
 | _,_,.cons _ _ t=>by rw[r6,r6,kj t]
end
section
variable {X:Cx}{H:Hp}
theorem zE {P:j9}{w:t9}{h:Heap}{q:Addr}{ms:List Int} (ok:bh P w H h) (e:H q=some (.tup (ms.map V.int))):iy h (.ref q) ms:=by
 obtain ⟨_,its,r,t⟩:=(show N9 P w H h q (.tup (ms.map V.int)) from ok q _ e)
 exact ⟨q,its,rfl,t,wV r⟩
theorem iy.keep {h h':Heap}{v:d6}{ns:List Int} (x:iy h v ns) (k:∀a o,v=.ref a->h.get? a=some o->h'.get? a=some o):iy h' v ns:=by
 obtain ⟨a,us,e,⟨o,ho,r⟩,i⟩:=x
 exact ⟨a,us,e,⟨o,k a o e ho,r⟩,i⟩
end
section
variable {X:Cx}{H:Hp}
theorem qh:∀{as:List Addr}{its:List d6},F2 (as.map V.ref) its->its=as.map B1
 | [],its,r=>by cases r;rfl
 | a::as,its,r=>by
  cases r with
  | cons r1 rr =>
   cases r1
   rw[qh rr];rfl
noncomputable def om (h:Heap) (a:Addr):d6:=match h.get? a with
 | some o=>(match o.data with | .seq xs _=>xs.getD 0 .none|_=>.none)
 | none=>.none
end
end L2
namespace L2
open PySem PySem.Spec PyProof.Rows
section
variable {prog:j9}{w:t9}{A:v7}{E:d6->d7->Prop}{s:d7}
end
section
variable {X:Cx}{pins:List (Addr × Obj)}{σ:St}{H:Hp}{s:d7}
end
section
variable {prog:j9}{w:t9}{A:v7}{E:d6->d7->Prop}{s:d7}
end
section
variable {X:Cx}{pins:List (Addr × Obj)}{σ:St}{H:Hp}{s:d7}
end
section
variable {X:Cx}
open Classical in
end
end L2
namespace So
open PySem PyProof.Rows PySem.Spec L2
section
variable {prog:j9}{w:t9}{A:v7}{E:d6->d7->Prop}{s:d7}{rk:E9->Int}{M:E9->Prop}{κ:aD}
end
end So
namespace L2
open PySem PySem.Spec PyProof.Rows HT
section
variable {X:Cx}{H:Hp}
end
end L2
namespace L2
open PySem PySem.Spec PyProof.Rows
section
variable {X:Cx}
open Classical in
end
section
variable {X:Cx}
end
section
variable {prog:j9}{w:t9}{A:v7}{R:tD->d7->Prop}{s:d7}
end
section
variable {X:Cx}{pins:List (Addr × Obj)}{σ:St}{H H':Hp}{s s':d7}{scope:N3}{N:List Str}{ix:List (Option Nat)}{fp:List Addr}
end
section
variable {X:Cx}{scope:N3}{N:List Str}{ix:List (Option Nat)}{kx vx target iter:Expr}{pos:Pos}{wi:TI}{g:TG}{tk tv:TE}
end
section
variable {X:Cx}
noncomputable abbrev TJx:=St->Hp->(Str->Hp->Prop)->Prop
section
variable {es:List Expr}{n:Nat}{t:TJx}
end
end
section
variable {prog:j9}{w:t9}{A:v7}{E:d6->d7->Prop}{s:d7}
end
section
variable {X:Cx}{pins:List (Addr × Obj)}{σ:St}{H:Hp}{p d it:Addr}{rs:List Addr}{kvs:List (V0 × V)}{A:v7}{R:tD->d7->Prop}
end
section
variable {X:Cx}{pins:List (Addr × Obj)}{σ:St}{H:Hp}{s:d7}
end
section
variable {X:Cx}
noncomputable def fE:V->Option Int->Option Int->Hp->VK->Prop:=fun x lo hi H Q=>∃a,x=.str a/\a.length<=i7/\Q (.str (Txt.slice a lo hi)) H
end
section
variable {prog:j9}{w:t9}{A:v7}{E:d6->d7->Prop}{s:d7}
end
section
variable {X:Cx}{pos:Pos}
end
section
variable {prog:j9}{w:t9}{A:v7}{R:tD->d7->Prop}{s:d7}{elt t0 i0 t1 i1:Expr}{fs:List Expr}{scope:N3}{pos:Pos}{it acc:d6}{env:Env}
end
section
variable {X:Cx}{scope:N3}{N:List Str}{ix:List (Option Nat)}{elt t0 i0 t1 i1:Expr}{fs:List Expr}{pos:Pos}{wi wj:TI}{g g1:TG}{te:TE}{tc:TT}
end
end L2
namespace L2
open PySem PySem.Spec PyProof.Rows HT
section
open PySem.SeqAt
open PySem.AutoSeq1 (wpAny_loadPart')
open PySem.MeetsSeq PySem.MeetsSeq2 PySem.MeetsSeq3
end
section
variable {prog:j9}{w:t9}{A:v7}{s:d7}
end
section
variable {X:Cx}
noncomputable def Dc (X:Cx) (f:d6) (k:Str) (r:List V->V->Hp->VK->Prop):Prop :=
 ∀(pins:List (Addr × Obj)) (s:d7) (σ:St) (H:Hp) (xs:List V) (us:List d6) (y:V) (u:d6) (Q:VK),C6 X pins σ H s->F2 xs us->G8 y u->r xs y H Q ->
  r0 (y6 X.prog X.w) X.A (call f us [(k,u)]) (EP X pins σ Q) X.xe s
noncomputable def tCK (r:List V->V->Hp->VK->Prop) (t:TA) (te:TE):TE:=fun σ H Q=>t σ H fun vs H1=>te σ H1 fun y H2=>r vs y H2 Q
theorem zj {x k:Str}{p pos kp:Pos}{e ke:Expr}{es:List Expr}{t:TA}{te:TE}{id:String}{r:List V->V->Hp->VK->Prop} (hc:Dc X (.builtin id) k r) (hg:Gl X x) (hm:X.mg x=none) (hv:V4 x=some (.builtin id)) (ha:PA X (e::es) t) (hk:PE X ke te) (hn:x≠"__name__":=by decide) (hdb:(x == ("__debug__":Str))=false:=by decide)
  (he:w6 (e::es) X.env=(false,eval e X.env)::w6 es X.env:=by rfl) (hpl:(S9 pos (w6 es X.env)).any (·.1)=false:=by rfl):PE X (.Call (.Name x p) (e::es) [⟨some k,ke,kp⟩] pos) (tCK r t te):=by
 intro pins s σ H Q I h
 refine Y9 (lu I hg hm hv ?_ hn hdb)
 refine PyProof.Rows.callWith_kw (Q9 (ha pos pins s σ H _ I h) fun us s1 ⟨vs,H1,I1,r1,q1⟩=>?_) ?_ ?_
 ·refine PyProof.Rows.kws_cons (Q9 (hk pins s1 σ H1 _ I1 q1) fun u s2 ⟨y,H2,I2,r2,q2⟩=>PyProof.Rows.kws_nil ?_)
  exact hc pins s2 σ H2 vs us y u Q I2 r1 r2 q2
 ·rw[he];rfl
 ·rw[he];exact hpl
end
end L2
namespace L2
open PySem PySem.Spec PyProof.Rows
section
variable {X:Cx}{pins:List (Addr × Obj)}{σ:St}{H:Hp}{p d it:Addr}{rs:List Addr}{kvs:List (List V0 × V)}{A:v7}{R:tD->d7->Prop}
end
end L2
namespace L2
open PySem PySem.Spec PyProof.Rows HT
section
variable {prog:j9}{w:t9}{A:v7}{E:d6->d7->Prop}{s:d7}
end
section
variable {X:Cx}{H:Hp}
end
end L2
namespace L2
open PySem PySem.Spec PyProof.Rows
noncomputable def hT (ns:List Int):Int:=reduceHash (Builtin.Tuple.tupleHashOf (ns.map hashInt))
section
variable {prog:j9}{w:t9}
variable (prog w) in
noncomputable abbrev TK (h:Heap) (ns:List Int) (a:Addr):Prop:=IsTupleKey (P4 prog w) h (ns.map U2) a
variable (prog w) in
noncomputable def EsT (h:Heap) (B:List Int->Addr->Prop):List (List Int)->List (Int × d6)->Prop
 | [],es=>es=[]
 | k::ks,es=>∃a r,es=(hT k,.ref a)::r/\(TK prog w h k a/\B k a)/\EsT h B ks r
section
variable {h h':Heap}{B:List Int->Addr->Prop}
end
variable (prog w) in
structure SetT (h:Heap) (B:List Int->Addr->Prop) (S:Addr) (ks:List (List Int)) (t:SetTable):Prop where
 ex:∃o es ep,h.get? S=some o/\o.ExactSet/\o.data=.set es ep t/\EsT prog w h B ks es.toList
 fits:t.fits ks.length=true
 plain:t.plain=true
section
variable {A:v7}{E:d6->d7->Prop}{s:d7}
end
end
section
variable {prog:j9}{w:t9}{A:v7}{R:tD->d7->Prop}{I:Addr}{fp wr:List Addr}{G:Array Gb->Array Gb->Prop}{n:Nat}{P:Nat->d6->Prop}{St:Nat->d7->Prop}
end
section
variable {prog:j9}{w:t9}{A:v7}{E:d6->d7->Prop}{s:d7}
noncomputable abbrev byTx (w:t9):Bool:=w.params.followText "set-order"
noncomputable def Gu (t:SetTable):Nat->Nat
 | 0=>0
 | i+1=>t.place.getD i 0+1
noncomputable def sl (w:t9) (t:SetTable) (i:Nat):Nat:=if byTx w=true then 0 else Gu t i
end
section
variable {prog:j9}{w:t9}{A:v7}{E:d6->d7->Prop}{s:d7}
end
section
variable {prog:j9}{w:t9}{A:v7}{E:d6->d7->Prop}{s:d7}
end
end L2
namespace L2
open PySem PySem.Spec PyProof.Rows HT
section
variable {prog:j9}{w:t9}{A:v7}{E:d6->d7->Prop}{s:d7}
end
section
variable {X:Cx}{H:Hp}
end
section
variable {prog:j9}{w:t9}{A:v7}{E:d6->d7->Prop}{s:d7}
theorem Ew {c:Bool}{x y:Int}{t u:Tok}{Q:Bool->d7->Prop} (h:Q (decide (x<y)) s):r0 (y6 prog w) A (oneLt' c (.int x t) (.int y u)) Q E s:=by
 cases c with
 | true=>exact oneLt_int h
 | false=>exact W.kat_one _ _ (wpAny_lt_int h)
theorem BX {b fin:Bool}{Q:Bool->d7->Prop}:∀{us vs:List d6}{ns ms:List Int} (i:Nat),fj us ns->fj vs ms->Q (if (ns.take ms.length=ms.take ns.length) then fin else N0 ns ms) s->W.KatLex prog w A b fin Q (us.zip vs) i s
 | [],vs,_,ms,i,.nil,_,h=>W.kat_nil (by simpa using h)
 | _::_,[],_,_,i,.cons _ _ _,.nil,h=>W.kat_nil (by simpa using h)
 | _::us,_::vs,_,_,i,.cons n t r,.cons m u q,h=>by
  refine W.kat_cons (vt n t m u prog w _ _ ?_)
  by_cases e:n=m
  ·subst e
   rw[beq_self_eq_true]
   refine W.kat_yes (BX (i+1) r q ?_)
   simpa [V8] using h
  ·rw[show (n == m)=false from by simpa using e]
   refine W.kat_no (Ew ?_)
   simpa [V8,e] using h
theorem yb:∀(ns ms:List Int),(if ns.take ms.length=ms.take ns.length then decide (ns.length<ms.length) else N0 ns ms)=N0 ns ms
 | [],[]=>rfl
 | [],_::_=>rfl
 | _::_,[]=>rfl
 | n::ns,m::ms=>by
  have ih:=yb ns ms
  rw[V8]
  by_cases e:n=m
  ·subst e
   simp only[r6,List.take_succ_cons,List.cons.injEq,true_and,Nat.add_lt_add_iff_right,if_true]
   exact ih
  ·simp[e]
theorem Gh {x y:Addr}{b:Bool}{ns ms:List Int}{Q:Bool->d7->Prop} (h1:iy s.heap (.ref x) ns) (h2:iy s.heap (.ref y) ms) (hq:Q (N0 ns ms) s):r0 (y6 prog w) A (keyLt' (tuples' b) (.ref x) (.ref y)) Q E s:=by
 obtain ⟨a,us,e1,⟨ox,hx,_,n,dx⟩,i1⟩:=h1
 obtain ⟨c,vs,e2,⟨oy,hy,_,k,dy⟩,i2⟩:=h2
 cases e1
 cases e2
 refine W.kat_lt hx dx hy dy (BX 0 i1 i2 ?_)
 rw[n6,n6,kj i1,kj i2,yb]
 exact hq
end
noncomputable abbrev Pl:=Addr × List Int
noncomputable def IG (L:List Pl):d6->Int
 | .ref a=>(L.lookup a).elim 0 fun k=>(nN (L.map (·.2)) k:Int)
 | _=>0
theorem qt:∀{L:List Pl}{t:Pl},(∀u∈L,∀v∈L,u.1=v.1->u.2=v.2)->t∈L->L.lookup t.1=some t.2
 | u::L,t,hf,ht=>by
  rw[show u::L=(u.1,u.2)::L from rfl,E5]
  by_cases e:t.1=u.1
  ·rw[show (t.1 == u.1)=true by simp[e]]
   exact congrArg some (hf u i4 t ht e.symm)
  ·rw[show (t.1 == u.1)=false by simpa using e]
   rcases List.mem_cons.mp ht with rfl|ht'
   ·exact absurd rfl e
   ·exact qt (fun u hu v hv=>hf u (f7 _ hu) v (f7 _ hv)) ht'
theorem uC {h:Heap}:∀{L:List Pl},(∀t∈L,iy h (.ref t.1) t.2/\t.2≠[])->W.KatTups h (L.map fun t=>B1 t.1) (L.map fun t=>om h t.1)
 | [],_=>W.KatTups.nil
 | t::L,hh=>by
  obtain ⟨⟨a,us,e,⟨o,h1,h2,n,h3⟩,ia⟩,ne⟩:=hh t i4
  cases e
  refine W.KatTups.cons h1 h2 h3 ?_ (uC fun u hu=>hh u (f7 _ hu))
  have hl:=kj ia
  match us,hl with
  | [],z=>exact absurd (List.length_eq_zero_iff.mp z.symm) ne
  | u::us,_ =>
   show (u::us).toArray[0]?=some (om h t.1)
   unfold om
   rw[h1]
   dsimp only
   rw[h3];rfl
section
variable {X:Cx}{H:Hp}
theorem xu:∀L:List Pl,F2 (L.map fun t=>V.ref t.1) (L.map fun t=>B1 t.1)
 | []=>.nil
 | _::L=>.cons rfl (xu L)
end
end L2
namespace HP
open PySem L2
section
variable {P:j9}{w:t9}
noncomputable abbrev KP:=List V0 × List V0
variable {A:v7}{E:d6->d7->Prop}{s:d7}
end
end HP
namespace L2
open PySem PySem.Spec PyProof.Rows HP
noncomputable abbrev PX:=List (KP × Addr × Addr)
section
variable {P:j9}{w:t9}{H:Hp}{h:Heap}{a:Addr}{xs:PX}
end
section
variable {X:Cx}{o e f:Expr}{apos cpos pos:Pos}{td ty tx tv:TE}
end
section
variable {X:Cx}{pins:List (Addr × Obj)}{σ:St}{H:Hp}{s:d7}
end
end L2
namespace L2
open PySem PySem.Spec PyProof.Rows HT
theorem EF (c:List Int) (a b:List Int):N0 (c++a) (c++b)=N0 a b:=by
 induction c with
 | nil=>rfl
 | cons x c ih=>rw[H0,H0,V8,if_pos rfl];exact ih
theorem nY:∀{a b:List Int} (c d:List Int),a.length=b.length->a≠b->N0 (a++c) (b++d)=N0 a b
 | [],[],_,_,_,h=>absurd rfl h
 | x::a,y::b,c,d,hl,h=>by
  rw[H0,H0,V8,V8]
  by_cases e:x=y
  ·rw[if_pos e,if_pos e]
   exact nY c d (by simpa using hl) fun z=>h (by rw[e,z])
  ·rw[if_neg e,if_neg e]
 | [],_::_,_,_,hl,_=>by simp at hl
 | _::_,[],_,_,hl,_=>by simp at hl
section
variable {prog:j9}{w:t9}{A:v7}{E:d6->d7->Prop}{s:d7}
end
section
variable {X:Cx}{pins:List (Addr × Obj)}{σ:St}{H:Hp}{s:d7}
end
end L2
namespace L2
open PySem PySem.Spec PyProof.Rows HT HP
section
variable {prog:j9}{w:t9}{A:v7}{E:d6->d7->Prop}{s:d7}
end
noncomputable def TrAt (H:Hp) (a:Addr) (u v:List Int):Prop:=∃c d tl,H a=some (.tup (.ref c::.ref d::tl))/\H c=some (.tup (u.map V.int))/\H d=some (.tup (v.map V.int))
structure Trs (H:Hp) (as:List Addr) (n:Nat) (ku kv:Addr->List Int):Prop where
 at_:∀a∈as,TrAt H a (ku a) (kv a)
 len:∀a∈as,(ku a).length=n
 nd:(as.map fun a=>ku a++kv a).Nodup
section
variable {X:Cx}{pins:List (Addr × Obj)}{σ:St}{H:Hp}{s:d7}
end
end L2
namespace L2
open PySem PySem.Spec PyProof.Rows HT
section
variable {X:Cx}{pins:List (Addr × Obj)}{σ:St}{H:Hp}{s:d7}
end
end L2
namespace So
open PySem PyProof.Rows PySem.Spec L2
theorem qp:∀(f n r:Nat),r<=1->(n<64->r=0 ∨ n<64)->DH f n r<=n+r
 | 0,n,r,_,_=>by first|exact i9 _ | (unfold DH;lia)|simp[DH]|decide
 | f+1,n,r,hr,_=>by
  rw[minRun'_succ]
  split
  ·exact i9 _
  ·have:=qp f (n / 2) (max r (n % 2)) (by lia) (by lia)
   lia
section
variable {prog:j9}{w:t9}{A:v7}{E:d6->d7->Prop}{s:d7}{rk:E9->Int}{M:E9->Prop}{κ:aD}{pd:Array (Nat × Nat × Nat)}{mg:Nat}
theorem pK {arr:Array E9}{N:Nat}{Q:Option Nat->gw->Prop} (hA:Kw prog w A s rk M κ) (m:∀x∈arr.toList,M x) (h2:2<=N) (hN:arr.size=N) (hd:∀i,i+1<N->Kv rk arr (i+1)<Kv rk arr i)
  (h:∀(arr':Array E9),Fc 0 arr arr'->EZ rk arr' 0 N->Q (some N) (Q5 κ arr' pd mg none)):wpS (y6 prog w) A E s (countRun' 0 N) Q (Q5 κ arr pd mg none):=by
 have one:EZ rk arr 0 1:=fun i j hi hij hj=>by
  have:i=j:=by lia
  subst this;exact pP _
 refine P5 (vg (arr:=arr) (lo:=0) ?_ (i9 1) (by lia) one fun n hn1 hn2 hs hend=>?_)
 ·intro x n R hn hnn r1 r2
  dsimp only
  refine P5 (sq hA m (by lia) (by lia) ?_)
  by_cases hlt:Kv rk arr (0+n)<Kv rk arr (0+n - 1)
  ·rw[decide_eq_true hlt];exact bq (r1 hlt)
  ·rw[decide_eq_false hlt];exact bq (r2 hlt)
 have en:n=1:=by
  have h01:Kv rk arr 1<Kv rk arr 0:=hd 0 (by lia)
  rcases Lb 1 n with z|z
  ·have:=hs 0 1 (i9 _) (by lia) (by lia)
   lia
  ·lia
 subst en
 dsimp only
 rw[if_neg (by simp;lia),if_neg (by lia)]
 refine P5 (wpS_lift (gr ⟨rfl,?_⟩))
 refine P5 (wpS_mono (qL (I:=fun x c st'=>c=(none,x,0)/\st'=Q5 κ arr pd mg none)
  (Q:=fun c st'=>c=(none,N,0)/\st'=Q5 κ arr pd mg none) ?_ ?_ ⟨rfl,rfl⟩) ?_)
 ·rintro x c st' hnx hx ⟨rfl,rfl⟩
  dsimp only
  refine P5 (sq hA m (by lia) (by lia) ?_)
  have hlt:Kv rk arr (0+x)<Kv rk arr (0+x - 1):=by
   have:=hd (x - 1) (by lia)
   rwa [show x - 1+1=0+x by lia,show x - 1=0+x - 1 by lia] at this
  rw[decide_eq_true hlt]
  dsimp only
  rw[if_pos rfl,if_neg (by decide)]
  exact bq ⟨rfl,rfl⟩
 ·rintro c st' ⟨rfl,rfl⟩
  rw[show max (1+1) N=N by lia]
  exact ⟨rfl,rfl⟩
 ·rintro c st' ⟨rfl,rfl⟩
  dsimp only
  rw[if_neg (by decide)]
  refine P5 (wpS_modify ?_)
  have k5:Fc 0 arr (yN arr 0 (0+N) ((0+N - 0) / 2)):=Fc.mirror (i9 _) (by lia)
  have dd:∀d i,i+d<N->Kv rk arr (i+d)<=Kv rk arr i:=fun d=>by
   induction d with
   | zero=>exact fun i _=>pP _
   | succ d ih =>
    intro i hi
    have a:=ih i (by lia)
    have b:=hd (i+d) (by lia)
    rw[show i+(d+1)=i+d+1 by lia];lia
  have s5:EZ rk (yN arr 0 (0+N) ((0+N - 0) / 2)) 0 N:=fun i j hi hij hj=>by
   rw[Kv.mirror (by lia),Kv.mirror (by lia),if_pos (by lia),if_pos (by lia)]
   have:=dd (j - i) (0+(0+N) - 1 - j) (by lia)
   rwa [show 0+(0+N) - 1 - j+(j - i)=0+(0+N) - 1 - i by lia] at this
  have m5:∀x∈(yN arr 0 (0+N) ((0+N - 0) / 2)).toList,M x:=fun x hx=>m x (k5.perm.mem_iff.mp hx)
  have z5:=k5.size
  show wpS _ _ _ _ _ _ (Q5 κ (yN arr 0 (0+N) ((0+N - 0) / 2)) pd mg none)
  generalize yN arr 0 (0+N) ((0+N - 0) / 2)=arr5 at k5 s5 m5 z5
  refine P5 (vg (arr:=arr5) (lo:=0) ?_ (by lia) (by lia) s5 fun n3 hn31 hn32 hs3 _=>?_)
  ·intro x n R hn hnn r1 r2
   dsimp only
   refine P5 (sq hA m5 (by lia) (by lia) ?_)
   by_cases hlt:Kv rk arr5 (0+n)<Kv rk arr5 (0+n - 1)
   ·rw[decide_eq_true hlt];exact bq (r1 hlt)
   ·rw[decide_eq_false hlt];exact bq (r2 hlt)
  ·have:n3=N:=by lia
   subst this
   exact bq (h arr5 k5 hs3)
theorem pB {arr:Array E9}{Q:Unit->gw->Prop} (hA:Kw prog w A s rk M κ) (m:∀x∈arr.toList,M x) (h2:2<=arr.size) (hd:∀i,i+1<arr.size->Kv rk arr (i+1)<Kv rk arr i)
  (h:∀st',(vn st').toList.Perm arr.toList->qU st'=none->Up rk (vn st').toList->Q () st'):wpS (y6 prog w) A E s sortRuns' Q (Q5 κ arr #[] 7 none):=by
 rw[sortRuns'_eq]
 refine P5 (DB ?_)
 dsimp only
 obtain ⟨N,eN⟩:∃N,N=arr.size:=⟨_,rfl⟩
 have hmr:DH N N 0<=N:=qp N N 0 (by lia) (fun h=>.inr h)
 rw[<- eN] at h2 hd
 simp only[<- eN]
 generalize DH N N 0=mr at hmr ⊢
 refine P5 (wpS_mono (qL
  (I:=fun x c st'=>(x=0/\c=(none,0)/\st'=Q5 κ arr #[] 7 none) ∨ (1<=x/\∃arr2,c=(none,N)/\st'=Q5 κ arr2 #[(0,N,0)] 7 none/\Fc 0 arr arr2/\EZ rk arr2 0 N))
  (Q:=fun c st'=>c.1=none/\∃arr2,st'=Q5 κ arr2 #[(0,N,0)] 7 none/\Fc 0 arr arr2/\EZ rk arr2 0 N) ?_ ?_ (.inl ⟨rfl,rfl,rfl⟩)) ?_)
 ·rintro x c st' _ hx (⟨rfl,rfl,rfl⟩|⟨hx1,arr2,rfl,rfl,k2,s2⟩)
  ·dsimp only
   rw[if_neg (by lia)]
   simp only[mU,ar]
   refine P5 (pK hA m h2 eN.symm hd fun arr2 k2 s2=>?_)
   dsimp only
   rw[if_neg (by lia)]
   refine P5 (DB ?_)
   have hb:(KS (Q5 κ arr2 #[] 7 none)).back?=none:=rfl
   rw[hb]
   dsimp only
   exact P5 (wpS_modify (bq (.inr ⟨by lia,arr2,rfl,rfl,k2,s2⟩)))
  ·dsimp only
   rw[if_pos (i9 _)]
   exact bq ⟨rfl,arr2,rfl,k2,s2⟩
 ·rintro c st' (⟨hx,rfl,rfl⟩|⟨hx1,arr2,rfl,rfl,k2,s2⟩)
  ·lia
  ·exact ⟨rfl,arr2,rfl,k2,s2⟩
 ·rintro ⟨c1,c2⟩ st' ⟨hc,arr2,rfl,k2,s2⟩
  dsimp only at hc
  subst hc
  dsimp only
  refine P5 (wpS_mono (qL (I:=fun _ c st'=>c=(none,())/\st'=Q5 κ arr2 #[(0,N,0)] 7 none) (Q:=fun c st'=>c=(none,())/\st'=Q5 κ arr2 #[(0,N,0)] 7 none) ?_ (fun _ _ z=>z) ⟨rfl,rfl⟩) ?_)
  ·rintro x c st' _ _ ⟨rfl,rfl⟩
   refine P5 (DB ?_)
   rw[if_pos (by show (1:Nat)<=1;exact i9 1)]
   exact bq ⟨rfl,rfl⟩
  ·rintro c st' ⟨rfl,rfl⟩
   have z2:=k2.size
   refine bq (h _ k2.perm rfl ?_)
   have:=Gr s2 (by lia)
   rw[eF,R5 (by rw[U8];lia)] at this
   exact this
theorem qk {rv:d6->Int}:∀{l m:List d6},l.Perm m->l.Pairwise (fun x y=>rv x<=rv y)->m.Pairwise (fun x y=>rv x<rv y)->l=m
 | [],m,hp,_,_=>by rw[List.nil_perm.mp hp]
 | a::l,[],hp,_,_=>by have:=hp.length_eq;simp at this
 | a::l,b::m,hp,hl,hm=>by
  rw[Dm] at hl hm
  have e:a=b:=by
   rcases List.mem_cons.mp (hp.mem_iff.mp (i4 (a:=a) (l:=l))) with z|z
   ·exact z
   rcases List.mem_cons.mp (hp.mem_iff.mpr (i4 (a:=b) (l:=m))) with y|y
   ·exact y.symm
   ·have h1:=hl.1 b y
    have h2:=hm.1 a z
    lia
  subst e
  rw[qk (List.perm_cons _ |>.mp hp) hl.2 hm.2]
theorem za {rv:d6->Int}{B:Addr}{vs:List d6}{c:Nat}{P:PySem.Fin->d7->Prop} (hB:s.heap.get? B=some (dF "list" vs.toArray c)) (hz:vs.length<=i7) (hrise:vs.Pairwise (fun x y=>rv x<rv y))
  (hk:2<=vs.length->∀h1,(∀b o,b≠B->s.heap.get? b=some o->h1.get? b=some o) ->
   r0 (y6 prog w) A (keyKind' vs.toArray) (fun κ s'=>s'={ s with heap:=h1 }/\Kw prog w A { s with heap:=h1 } (fun x=>rv x.1) (fun x=>x.1∈vs) κ) (fun _ _=>False) { s with heap:=h1 })
  (hP:∀h' c',(∀b o,b≠B->s.heap.get? b=some o->h'.get? b=some o)->h'.get? B=some (dF "list" (dQ vs.reverse) c')->P (.done (.ret .none)) { s with heap:=h' }):r0 (y6 prog w) A (bI.«list.sort» ⟨[.ref B],[("reverse",.bool true)]⟩) P E s:=by
 obtain ⟨e1,hB1⟩:∃e1,(s.heap.update B (X6 fun _=>(#[]:Array d6))).get? B=some (dF "list" #[] e1):=⟨_,get?_update_seq hB fun _=>#[]⟩
 have b1:=Y8 s.heap B (X6 fun _=>(#[]:Array d6))
 obtain ⟨h3,eh3⟩:∃h3,h3=((s.heap.update B (X6 fun _=>(#[]:Array d6))).push (dF "tuple" vs.toArray 0)).push (dF "list" #[] 0):=⟨_,rfl⟩
 have hB3:h3.get? B=some (dF "list" #[] e1):=by rw[eh3];exact f9 _ (f9 _ hB1)
 have k3:∀b o,b≠B->s.heap.get? b=some o->h3.get? b=some o:=fun b o hb q=>by rw[eh3];exact f9 _ (f9 _ (b1.extBut b o hb q))
 rw[show (("reverse":Str))=U3 "reverse" from rfl,list_sort_rev]
 refine b8 (listItems_at hB rfl (b8 (listUpdate_at hB rfl ?_ (by rw[n6];lia) (u9 _))))
 refine b8 (seqEpoch_at hB1 rfl (b8 (yJ ?_ (by show vs.length<=_;exact hz))))
 refine b8 (wpAny_newList (O5 ?_) (u9 _))
 show r0 (y6 prog w) A _ P E { s with heap:=((s.heap.update B (X6 fun _=>(#[]:Array d6))).push (dF "tuple" vs.toArray 0)).push (dF "list" #[] 0) }
 rw[<- eh3]
 dsimp only
 rw[if_pos rfl]
 refine b8 (gr ?_)
 have fin:∀(st:gw),(vn st).map (·.2)=dQ vs->qU st=none ->
   r0 (y6 prog w) A (do
    let sorted:=(vn st).map (·.2)
    let touched:=(<- seqEpoch B) != e1
    Builtin.List.listUpdate (.ref B) fun _=>sorted.reverse
    if let some e:=qU st then rule "list.sort.comparison-raised";throw e
    if touched then rule "list.sort.modified";raiseError "ValueError" "list modified during sort"
    ret .none) P E { s with heap:=h3 }:=fun st ho hf=>by
  rw[ho]
  dsimp only
  rw[List.reverse_toArray]
  have sz:(dQ vs.reverse).size<=i7:=by rw[n6,J6];exact hz
  obtain ⟨c2,hc2⟩:∃c2,(h3.update B (X6 fun _=>dQ vs.reverse)).get? B=some (dF "list" (dQ vs.reverse) c2):=⟨_,get?_update_seq hB3 fun _=>dQ vs.reverse⟩
  refine b8 (seqEpoch_at hB3 rfl (b8 (listUpdate_at hB3 rfl ?_ (u9 _) (m8 sz (X0 _)))))
  rw[hf]
  simp only[bne_self_eq_false,lK,if_false]
  exact i8 (hP _ c2 (fun b o hb q=>(Y8 h3 B _).extBut b o hb (k3 b o hb q)) hc2)
 by_cases h2:2<=vs.length
 ·have hn2:¬ vs.toArray.size<2:=by rw[n6];lia
  rw[if_neg hn2,if_neg hn2]
  refine b8 (F0 (hk h2 h3 k3) (fun κ s0 hh=>?_) fun _ _ x=>x.elim)
  obtain ⟨rfl,ask⟩:=hh
  have ez0:(vs.toArray.zip vs.toArray).toList=vs.map fun v=>(v,v):=by
   rw[DW]
   show vs.zip vs=_
   clear hk hP hB hz hrise h2 hn2 ask fin hB1 b1 eh3 hB3 k3
   induction vs with
   | nil=>rfl
   | cons v vs ih=>rw[List.zip_cons_cons,ih];rfl
  have ez:(vs.toArray.zip vs.toArray).reverse.toList=(vs.map fun v=>(v,v)).reverse:=by rw[yW,ez0]
  have esz:(vs.toArray.zip vs.toArray).reverse.size=vs.length:=by
   rw[<- U8,ez,J6,b9]
  refine b8 (F0 (pB (arr:=(vs.toArray.zip vs.toArray).reverse) (rk:=fun x=>rv x.1) (M:=fun x=>x.1∈vs) (s:={ s with heap:=h3 }) (Q:=fun _ st'=>(vn st').toList.Perm (vs.map fun v=>(v,v))/\qU st'=none/\Up (fun x=>rv x.1) (vn st').toList) ask (fun x hx=>?_) (by rw[esz];exact h2) (fun i hi=>?_) (fun st' a1 a2 a3=>⟨by rw[ez] at a1;exact a1.trans (List.reverse_perm _),a2,a3⟩)) ?_ fun _ _ e=>e)
  ·rw[ez] at hx
   obtain ⟨v,hv,rfl⟩:=List.mem_map.mp (List.mem_reverse.mp hx)
   exact hv
  ·rw[esz] at hi
   have gi:∀k (hk:k<vs.length),(vs.toArray.zip vs.toArray).reverse[k]?=some (vs[vs.length - 1 - k],vs[vs.length - 1 - k]):=fun k hk=>by
    rw[<- xp,ez,yU (by rw[b9];exact hk),b9,n8,d9 (by lia)];rfl
   unfold Kv
   rw[gi i (by lia),gi (i+1) hi]
   exact List.pairwise_iff_getElem.mp hrise _ _ (by lia) (by lia) (by lia)
  rintro ⟨⟨⟩,st'⟩ s' ⟨rfl,hp,hf,hu⟩
  dsimp only at hp hf hu ⊢
  have twin:∀x∈(vn st').toList,x.1=x.2:=fun x hx=>by
   obtain ⟨v,_,rfl⟩:=List.mem_map.mp (hp.mem_iff.mp hx)
   rfl
  have hp2:((vn st').toList.map (·.2)).Perm vs:=by
   have:=hp.map (·.2)
   rw[X2] at this
   have e:vs.map ((fun x:E9=>x.2) ∘ fun v=>(v,v))=vs:=by
    have:((fun x:E9=>x.2) ∘ fun v=>(v,v))=id:=rfl
    rw[this,Le]
   rw[e] at this
   exact this
  refine fin st' ?_ hf
  apply Array.toList_inj.mp
  rw[DX]
  refine qk (rv:=rv) hp2 ?_ hrise
  rw[bH]
  refine mh ?_ hu
  intro x y hx hy hxy
  rw[<- twin x hx,<- twin y hy]
  exact hxy
 ·have hn2:vs.toArray.size<2:=by rw[n6];lia
  rw[if_pos hn2,if_pos hn2]
  refine b8 (i8 (b8 ?_))
  rw[StateT.run_pure]
  refine i8 ?_
  refine fin _ ?_ rfl
  show ((vs.toArray.zip vs.toArray).reverse.map (·.2))=vs.toArray
  apply Array.toList_inj.mp
  rw[DX,yW,DW]
  match vs,h2 with
  | [],_=>rfl
  | [v],_=>rfl
  | a::b::l,h2=>exact absurd (by simp:2<=(a::b::l).length) h2
end
end So
namespace L2
open PySem PySem.Spec PyProof.Rows
section
variable {X:Cx}{K:m9}
end
end L2
namespace L2
open PySem PySem.Spec PyProof.Rows PySem.SeqAt
section
variable {X:Cx}{K:m9}
end
end L2
namespace L2
open PySem PySem.Spec PyProof.Rows
section
variable {X:Cx}
end
section
variable {X:Cx}{K:m9}
end
section
variable {X:Cx}
end
end L2
namespace L2
open PySem PySem.Spec PyProof.Rows PySem.SeqAt
section
variable {X:Cx}{K:m9}
end
section
variable {X:Cx}{K:m9}
end
section
variable {X:Cx}{K:m9}
noncomputable def FA (K:m9):V->List V->Hp->VK->Prop:=fun x vs H Q=>∃(t:Addr) (ns:List Int) (k:Int),x=.ref t/\vs=[.int k]/\aQ K H t (ns.map V.int)/\Q (.int (ns.count k:Nat)) H
theorem lW {k:Int}:∀{ns:List Int}{its:List d6},F2 (ns.map V.int) its->its.countP (fun y=>match y with | .int i _=>i == k|_=>false)=ns.count k
 | [],its,r=>by cases r;rfl
 | n::ns,its,r=>by
  cases r with
  | cons r1 rr =>
   obtain ⟨tk,rfl⟩:=r1
   rw[oQ,pO,lW rr]
theorem zu:Kg X "tuple.count" (FA X.K):=by
 intro pins s σ H x vs v us Q I rx rv h
 obtain ⟨t,ns,k,rfl,rfl,hH,q⟩:=h
 cases rx
 obtain ⟨u,rfl,ru⟩:=rv.one
 obtain ⟨tk,rfl⟩:=ru
 obtain ⟨its,r,p,z⟩:=I.tuple hH
 obtain ⟨o,ho,hc,n,hd⟩:=p
 have hlen:=r.length
 rw[b9] at hlen
 obtain ⟨cl,dd,dt,sl⟩:=o
 simp only at hc hd
 subst hc hd
 refine W2 F.slot_tuple_count ⟨_,ho,rfl⟩ F.entry_tuple_count (F.args_tuple_count_2 _ _)
  (tuple_countAt t its.toArray n dd sl (.int k tk) (fun y=>match y with | .int i _=>i == k|_=>false)) ⟨ho,fun y hy=>?_,?_⟩
 ·obtain ⟨m,hm,rfl⟩:=Array.mem_iff_getElem.mp hy
  have hm':m<ns.length:=by rw[hlen];simpa using hm
  obtain ⟨u,hu,ru⟩:=r.get (i:=m) (x:=.int (ns.getD m 0)) (by rw[n8,d9 hm',j6,d9 hm'];rfl)
  obtain ⟨tk',rfl⟩:=ru
  have e:=(List.getElem?_eq_some_iff.mp hu).2
  have e':its.toArray[m]=.int (ns.getD m 0) tk':=by simpa using e
  rw[e']
  exact vt _ _ _ _
 ·have e:(its.toArray.toList.countP fun y=>match y with | .int i _=>i == k|_=>false)=ns.count k:=lW r
  rw[e]
  exact ⟨.int (ns.count k:Nat),H,I.tok _,⟨_,rfl⟩,q⟩
theorem JY (h:X.K=K):Kg X "tuple.count" (FA K):=by subst h;exact zu
end
end L2
namespace L2
open PySem PySem.Spec PyProof.Rows HT
section
variable {X:Cx}{pins:List (Addr × Obj)}{σ:St}{H:Hp}{s:d7}
noncomputable def GL (K:m9):List V->V->Hp->VK->Prop:=fun xs y H Q=>∃(p:Addr) (L:List Pl),xs=[.ref p]/\y=.bl true/\dC K H p (L.map fun t=>V.ref t.1)/\L.length<=200000/\(∀t∈L,H t.1=some (.tup (t.2.map V.int))/\t.2≠[])/\L.Pairwise (fun a b=>HT.N0 a.2 b.2=true) /\
 ∀(D:Addr) (H':Hp),j7 H H'->H D=none->H' D=some (.lst (L.reverse.map fun t=>V.ref t.1))->Q (.ref D) H'
theorem xb:Dc X (.builtin "sorted") "reverse" (GL X.K):=by
 intro pins s σ H xs us y u Q I rr ry h
 obtain ⟨p,L,rfl,rfl,hp,h2000,hL,hup,q⟩:=h
 obtain ⟨u',rfl,rx⟩:=jf rr
 cases rx
 cases ry
 obtain ⟨its,rv,hl,hz⟩:=I.list hp
 have e:its=L.map fun t=>B1 t.1:=by
  have:=qh (as:=L.map (·.1)) (by rw[X2];exact rv)
  rw[this,X2];rfl
 subst e
 have y9:∀t∈L,H t.1=some (.tup (t.2.map V.int)):=fun t ht=>(hL t ht).1
 have fn:∀u∈L,∀v∈L,u.1=v.1->u.2=v.2:=fun u hu v hv e=>by
  have h1:=y9 u hu
  have h2:=y9 v hv
  rw[e,h2] at h1
  injection h1 with h1
  injection h1 with h1
  exact ((Dn fun x y e=>by injection e).mp h1).symm
 have rvE:∀t∈L,IG L (.ref t.1)=(nN (L.map (·.2)) t.2:Int):=fun t ht=>by
  show (L.lookup t.1).elim 0 _=_
  rw[qt fn ht];rfl
 have mem:∀t∈L,t.2∈L.map (·.2):=fun t ht=>List.mem_map.mpr ⟨t,ht,rfl⟩
 refine call_function_entry_kw kind_sorted plain_sorted entry_sorted (args_sorted_rev _ _) ?_
 unfold bI.«sorted»
 refine b8 (m:=checkCount "sorted" 1 1 _) (i8 ?_)
 refine b8 (collect_list hl.isList ?_ (by rw[b9,S6];lia))
 refine b8 (wpAny_newList ?_ (by rw[b9,S6];lia))
 obtain ⟨h',eh'⟩:∃h',h'=(s.heap.push (dF "list" #[] 0)).update s.heap.objs.size (X6 (·++(L.map fun t=>B1 t.1).toArray)):=⟨_,rfl⟩
 rw[<- eh']
 have hsz:h'.objs.size=s.heap.objs.size+1:=by rw[eh',Heap.size_update,size_push']
 have k1:∀b o,s.heap.get? b=some o->h'.get? b=some o:=fun b o q=>by
  have hlt:b<s.heap.objs.size:=m7 q
  rw[eh',Heap.get?_update_ne _ _ _ _ (w9 hlt),Heap.get?_push_ne _ _ _ (w9 hlt)]
  exact q
 have hB:(h'.push (dF "list" (L.map fun t=>B1 t.1).toArray 0)).get? h'.objs.size=some (dF "list" (L.map fun t=>B1 t.1).toArray 0):=q9 _ rfl
 have k2:∀b o,s.heap.get? b=some o->(h'.push (dF "list" (L.map fun t=>B1 t.1).toArray 0)).get? b=some o:=fun b o e=>f9 _ (k1 b o e)
 have lt1:∀b o,s.heap.get? b=some o->b≠h'.objs.size:=fun b o e=>w9 (m7 (k1 b o e))
 show r0 _ _ _ _ _ { s with heap:=h'.push (dF "list" (L.map fun t=>B1 t.1).toArray 0) }
 refine b8 (O5 (wpAny_call_entry_kw slot_list_sort ⟨_,hB,rfl⟩ entry_list_sort ?body (args_list_sort_rev _ _)))
 refine So.za (rv:=IG L) (s:={ s with heap:=h'.push (dF "list" (L.map fun t=>B1 t.1).toArray 0) }) (vs:=L.map fun t=>B1 t.1) hB (by rw[b9,S6];lia) ?_ (fun h2 h1 kp=>?_) (fun h5 c' kp hB5=>?_)
 ·rw[bH]
  refine mh ?_ hup
  intro a b ha hb hab
  rw[rvE a ha,rvE b hb]
  rw[<- tY (mem a ha) (mem b hb)] at hab
  exact of_decide_eq_true hab
 ·rw[b9] at h2
  have at1:∀t∈L,iy h1 (.ref t.1) t.2/\t.2≠[]:=fun t ht=>⟨(zE I.hok (y9 t ht)).keep fun b o _ e=>kp b o (lt1 b o e) (k2 b o e),(hL t ht).2⟩
  refine W.kat_kind (T:=.type "int") (uC at1) (by rw[b9];lia) (fun f hf=>?_) (by decide) ⟨rfl,fun x y hx hy Q hQ=>?_⟩
  ·obtain ⟨t,ht,rfl⟩:=List.mem_map.mp hf
   obtain ⟨⟨a,us,e,⟨o,h1',h2',n,h3'⟩,ia⟩,ne⟩:=at1 t ht
   cases e
   have hl:=kj ia
   match us,hl with
   | [],z=>exact absurd (List.length_eq_zero_iff.mp z.symm) ne
   | u::us,_ =>
    obtain ⟨t',e⟩:=yi (j:=0) ia rfl
    have:om h1 t.1=u:=by
     unfold om
     rw[h1']
     dsimp only
     rw[h3'];rfl
    rw[this,e]
    exact Di rfl
  ·obtain ⟨x1',x2'⟩:=x
   obtain ⟨y1',y2'⟩:=y
   dsimp only at hx hy hQ ⊢
   obtain ⟨tx,hax,rfl⟩:=List.mem_map.mp hx
   obtain ⟨ty,hay,rfl⟩:=List.mem_map.mp hy
   have eR:decide (IG L (.ref tx.1)<IG L (.ref ty.1))=HT.N0 tx.2 ty.2:=by
    rw[<- tY (mem tx hax) (mem ty hay)]
    simp only[rvE tx hax,rvE ty hay]
   replace hQ:Q (decide (IG L (.ref tx.1)<IG L (.ref ty.1))) _:=hQ
   rw[eR] at hQ
   exact Gh (at1 tx hax).1 (at1 ty hay).1 hQ
 ·refine ⟨_,rfl,i8 ⟨_,rfl,?_⟩⟩
  have k5:∀b o,s.heap.get? b=some o->h5.get? b=some o:=fun b o e=>kp b o (lt1 b o e) (k2 b o e)
  have hfr:H h'.objs.size=none:=I.hok.fresh (by rw[hsz];exact X0 _)
  have J:=I.laid (a:=h'.objs.size) (o:=.lst (L.reverse.map fun t=>V.ref t.1)) (h':=h5) (t':=s.toks) k5 (by rw[hsz];exact X0 _) ⟨by rw[b9,J6,S6];lia,L.reverse.map (fun t=>B1 t.1),c',xu _,by rw[cF];exact hB5⟩
  exact ⟨.ref h'.objs.size,_,J,rfl,q _ _ (j7.new hfr) hfr f6⟩
end
section
variable {X:Cx}{K:m9}
noncomputable def tBMT (r:V->List V->Hp->VK->Prop) (to:TE) (t:TA):TE:=fun σ H Q=>to σ H fun x H1=>(∃p xs,x=.ref p/\H1 p=some (.tup xs))/\t σ H1 fun xs H2=>r x xs H2 Q
theorem BA {o e:Expr}{es:List Expr}{to:TE}{t:TA}{name:Str}{apos cpos:Pos}{id:String}{r:V->List V->Hp->VK->Prop} (slot:Slot "tuple" name id) (hty:typeOf (.builtin id)=pure (.type "method_descriptor")) (hm:Kg X id r) (ho:PE X o to) (ha:PA X (e::es) t)
  (hbase:iT o name X.env (eval o X.env)=eval o X.env:=by rfl)
  (hfew:((S9 cpos (w6 (e::es) X.env)).all (fun x=>!x.1)&&(FW cpos (vm [] X.env)).all (fun x=>x.1.isSome)
   && decide ((e::es).length+([]:List iz).length+(if ([]:List iz).isEmpty then 0 else 1)<30))=true:=by rfl)
  (hline:(apos.endLine == cpos.line)=true:=by rfl) (hs:w6 (e::es) X.env=(false,eval e X.env)::w6 es X.env:=by rfl) (hplain:(S9 cpos (w6 es X.env)).any (·.1)=false:=by rfl):
  PE X (.Call (.Attribute o name apos) (e::es) [] cpos) (tBMT r to t):=by
 intro pins s σ H Q I h
 refine DE hbase hfew hline rfl (Q9 (ho pins s σ H _ I h) fun v s1 ⟨x,H1,I1,r1,⟨p,xs,ex,hp⟩,q1⟩=>?_)
 subst ex
 cases r1
 obtain ⟨⟨_,ob,hg,nd⟩,its,_,o2,hg2,hc,_⟩:=(show N9 X.prog X.w H1 s1.heap p (.tup xs) from I1.hok p _ hp)
 have e2:o2=ob:=by rw[hg] at hg2;injection hg2 with z;exact z.symm
 subst e2
 refine ⟨"tuple",id,PySem.F.plainAttrs_tuple,slot,hty,⟨o2,hg,hc⟩,fun a e=>by cases e;exact ⟨o2,hg,nd⟩,?_⟩
 have hA:=ha cpos pins s1 σ H1 _ I1 q1
 rw[hs] at hA ⊢
 refine bA (by show (false || (S9 cpos (w6 es X.env)).any (·.1))=false;rw[hplain] <;> rfl) (cL ?_)
 exact Q9 hA fun us s2 ⟨vs,H2,I2,r2,q2⟩=>hm pins s2 σ H2 (.ref p) vs (.ref p) us Q I2 rfl r2 q2
end
end L2
set_option maxHeartbeats 1000000
namespace Mq
open PySem PySem.Spec L2 Mt Md
end Mq
namespace Mt
noncomputable def rp (s g:Int):Nat->Int
 | 0=>1
 | n+1=>rp s g n*(s+(n:Int)*g)
noncomputable abbrev fct (n:Nat):Int:=rp 1 1 n
noncomputable def tot:List Nat->Nat
 | []=>0
 | c::cs=>c+tot cs
noncomputable def JH (a:Int):List Nat->Int
 | []=>a
 | c::cs=>JH (a / fct c) cs
noncomputable def ordN (cs:List Nat):Int:=JH (fct (tot cs)) cs
noncomputable def rps (g:Int):List Int->List Nat->Int
 | b::bs,c::cs=>rp b g c*rps g bs cs
 | _,_=>1
noncomputable def cch (ns:List Int) (g:Int) (cs:List Nat):Rat:=cut (ordN cs*rps g ns cs) (rp ns.sum g (tot cs))
noncomputable def bnow (g:Int) (ns:List Int) (cs:List Nat):List Int:=xm (fun b (c:Nat)=>b+g*(c:Int)) ns cs
end Mt
namespace Mq
open PySem PySem.Spec L2 Mt Md
noncomputable def bf (c:List Nat) (j:Nat):List Nat:=c.set j (c.getD j 0+1)
noncomputable def sL (c:List Nat) (j:Nat):List Nat:=c.set j (c.getD j 0 - 1)
theorem og (c:List Nat) (j:Nat):(bf c j).length=c.length:=by unfold bf;rw[T6]
theorem ky (c:List Nat) (j:Nat):(sL c j).length=c.length:=by unfold sL;rw[T6]
variable {c:List Nat}{j:Nat}
theorem km {i:Nat} (hj:j<c.length):(bf c j).getD i 0=if j=i then c.getD j 0+1 else c.getD i 0:=by
 unfold bf
 rw[j6,mE]
 by_cases h:j=i
 ·subst h;rw[if_pos rfl,if_pos rfl,if_pos hj];rfl
 ·rw[if_neg h,if_neg h,j6 (i:=i)]
theorem kz {i:Nat} (hj:j<c.length):(sL c j).getD i 0=if j=i then c.getD j 0 - 1 else c.getD i 0:=by
 unfold sL
 rw[j6,mE]
 by_cases h:j=i
 ·subst h;rw[if_pos rfl,if_pos rfl,if_pos hj];rfl
 ·rw[if_neg h,if_neg h,j6 (i:=i)]
theorem uM {a b:List Nat} (hl:a.length=b.length) (h:∀i,a.getD i 0=b.getD i 0):a=b:=by
 refine Fl hl fun i h1 h2=>?_
 have:=h i
 rw[j6,j6,d9 h1,d9 h2] at this
 exact this
theorem yk (hj:j<c.length) (h:0<c.getD j 0):bf (sL c j) j=c:=by
 refine uM (by rw[og,ky]) fun i=>?_
 rw[km (by rw[ky];exact hj),kz hj,kz hj,if_pos rfl]
 by_cases e:j=i
 ·subst e;rw[if_pos rfl];lia
 ·rw[if_neg e,if_neg e]
theorem jP:∀{c:List Nat}{j:Nat},j<c.length->tot (bf c j)=tot c+1
 | x::c,0,_=>by show (x+1)+tot c=x+tot c+1;lia
 | x::c,j+1,h=>by
  have:=jP (c:=c) (j:=j) (by simpa using h)
  show x+tot (bf c j)=x+tot c+1
  lia
noncomputable def parts (ns:List Int) (g:Int) (c:List Nat) (j:Nat):Rat:=if 0<c.getD j 0 then cch ns g (sL c j)*AL (bnow g ns (sL c j)) j else 0
noncomputable def P0 (n:Nat) (ds:List Nat):List Nat:=(D4 n).map fun j=>ds.count j
theorem aO (n:Nat) (ds:List Nat):(P0 n ds).length=n:=by unfold P0;rw[b9,Q7]
variable {n:Nat}
theorem oz (ds:List Nat) (h:j<n):(P0 n ds).getD j 0=ds.count j:=by
 unfold P0
 rw[j6,n8,M6 h];rfl
theorem zO (ds:List Nat) (hj:j<n):P0 n (ds++[j])=bf (P0 n ds) j:=by
 refine uM (by rw[og,aO,aO]) fun i=>?_
 rw[km (by rw[aO];exact hj),oz ds hj]
 by_cases hi:i<n
 ·rw[oz _ hi,oz _ hi,List.count_append]
  by_cases e:j=i
  ·subst e;rw[if_pos rfl];simp
  ·rw[if_neg e]
   have:List.count i [j]=0:=by rw[List.count_eq_zero];simp;exact fun z=>e z.symm
   lia
 ·rw[if_neg (by lia)]
  have z:∀x:List Nat,(P0 n x).getD i 0=0:=fun x=>by rw[j6,M8 (by rw[aO];lia)];rfl
  rw[z,z]
noncomputable def iC (n:Nat) (c:List Nat) (ds:List Nat):Rat:=if P0 n ds=c then 1 else 0
theorem tM:∀{c:List Nat},tot c=0->c=m6 c.length 0
 | [],_=>rfl
 | x::c,h=>by
  have h':x+tot c=0:=h
  have:=tM (c:=c) (by lia)
  rw[r6,E4,<- this,show x=0 by lia]
theorem tP {n:Nat}:∀l:List Nat,(∀j∈l,j<n)->tot (P0 n l.reverse)=l.length
 | [],_=>by
  have:P0 n []=m6 n 0:=by
   unfold P0
   refine Fl (by simp) fun i h1 h2=>by simp
  rw[List.reverse_nil,this]
  clear this
  induction n with
  | zero=>rfl
  | succ n ih=>rw[E4];show 0+tot (m6 n 0)=0;simp at ih;lia
 | a::l,h=>by
  have ha:=h a i4
  rw[mB,zO _ ha,jP (by rw[aO];exact ha),tP l fun j hj=>h j (f7 _ hj)]
  rfl
theorem xA {ds:List Nat} (h:∀j∈ds,j<n):tot (P0 n ds)=ds.length:=by
 have:=tP (n:=n) ds.reverse fun j hj=>h j (List.mem_reverse.mp hj)
 rw[List.reverse_reverse,J6] at this
 exact this
noncomputable def cI (c:List Nat):List Int:=c.map fun (k:Nat)=>(k:Int)
theorem fP (c:List Nat) (j:Nat):(cI c).getD j 0=((c.getD j 0:Nat):Int):=by
 unfold cI
 rw[j6,j6,n8]
 cases c[j]? <;> rfl
theorem W8 (c:List Nat):(cI c).length=c.length:=by unfold cI;rw[b9]
theorem lD (c:List Nat) (j:Nat):inc (cI c) j=cI (bf c j):=by
 unfold inc bf
 rw[fP]
 unfold cI
 rw[mC];rfl
theorem CI {a b:List Nat} (h:cI a=cI b):a=b:=by
 unfold cI at h
 exact (Dn fun x y e=>by lia).mp h
theorem yf {D:P2}{k x:List Int}{r:Rat} (h:x=k ∨ x∈D.map (·.1)):x∈(cg D k r).map (·.1):=by
 induction D with
 | nil =>
  rcases h with h|h
  ·rw[h];exact List.mem_singleton.mpr rfl
  ·cases h
 | cons p D ih =>
  unfold cg
  split
  ·rename_i e
   rcases h with h|h
   ·rw[h]
    exact List.mem_cons.mpr (.inl (by first|rfl|exact e.symm|exact e))
   ·rcases List.mem_cons.mp h with h|h
    ·exact List.mem_cons.mpr (.inl (by first|exact h | (rw[h];exact e) | (rw[h,e])))
    ·exact List.mem_cons.mpr (.inr h)
  ·rcases h with h|h
   ·exact List.mem_cons.mpr (.inr (ih (.inl h)))
   ·rcases List.mem_cons.mp h with h|h
    ·exact List.mem_cons.mpr (.inl h)
    ·exact List.mem_cons.mpr (.inr (ih (.inr h)))
theorem nZ {x:List Int}{r:Rat}{s:Int}:∀{bs:List (Int × List Int)}{D:P2},((∃b∈bs,b.2=x) ∨ x∈D.map (·.1))->x∈(Y2 r s bs D).map (·.1)
 | [],D,h=>by
  rcases h with ⟨b,hb,_⟩|h
  ·cases hb
  ·exact h
 | b::bs,D,h=>by
  unfold Y2
  refine nZ (bs:=bs) ?_
  rcases h with ⟨c,hc,e⟩|h
  ·rcases List.mem_cons.mp hc with z|z
   ·exact .inr (yf (.inl (by rw[<- e,z])))
   ·exact .inl ⟨c,z,e⟩
  ·exact .inr (yf (.inr h))
theorem uB {u:List Int}{rs:List (List Int)}{g x:List Int}:∀{T D:P2},((∃p∈T,∃b∈kN u rs g p.1 u.length,b.2=x) ∨ x∈D.map (·.1))->x∈(O1 u rs g T D).map (·.1)
 | [],D,h=>by
  rcases h with ⟨p,hp,_⟩|h
  ·cases hp
  ·exact h
 | q::T,D,h=>by
  unfold O1
  refine uB (T:=T) ?_
  rcases h with ⟨p,hp,b,hb,e⟩|h
  ·rcases List.mem_cons.mp hp with z|z
   ·exact .inr (nZ (.inl ⟨b,by rw[<- z];exact hb,e⟩))
   ·exact .inl ⟨p,z,b,hb,e⟩
  ·exact .inr (nZ (.inr h))
theorem wZ {n:Nat}{rs:List (List Int)}{u g:List Int} (hu:u.length=n):∀(k:Nat) (c:List Nat),c.length=n->tot c=k->(∀j,((c.getD j 0:Nat):Int)<=g.getD j 0)->cI c∈(pL u rs g k).map (·.1)
 | 0,c,hc,ht,_=>by
  have e:=tM ht
  rw[hc] at e
  rw[e]
  show _∈[m6 u.length 0]
  rw[hu]
  refine List.mem_singleton.mpr ?_
  unfold cI
  rw[X1];rfl
 | k+1,c,hc,ht,hg=>by
  have ex:∀l:List Nat,0<tot l->∃j,j<l.length/\0<l.getD j 0:=by
   intro l
   induction l with
   | nil=>intro h;exact absurd h (O2 0)
   | cons a l ih =>
    intro h
    have h':0<a+tot l:=h
    by_cases ha:0<a
    ·exact ⟨0,by simp,ha⟩
    ·obtain ⟨j,hj,h0⟩:=ih (by lia)
     exact ⟨j+1,by simpa using hj,by simpa using h0⟩
  obtain ⟨j,hj,h0⟩:=ex c (by lia)
  have t1:=jP (c:=sL c j) (j:=j) (by rw[ky];exact hj)
  rw[yk hj h0] at t1
  have ih:=wZ (rs:=rs) (g:=g) hu k (sL c j) (by rw[ky];exact hc) (by lia) fun i=>by
   have:=hg i
   rw[kz hj]
   split
   ·rename_i e;subst e;lia
   ·exact this
  obtain ⟨p,hp,e⟩:=List.mem_map.mp ih
  show cI c∈(O1 u rs g (pL u rs g k) []).map (·.1)
  refine uB (.inl ⟨p,hp,((N8 u rs p.1).getD j 0,inc p.1 j),?_,?_⟩)
  ·unfold kN pG
   refine List.mem_map.mpr ⟨j,List.mem_filter.mpr ⟨List.mem_range.mpr (by lia),decide_eq_true ?_⟩,rfl⟩
   have:=hg j
   rw[e,fP,kz hj,if_pos rfl]
   lia
  ·show inc p.1 j=cI c
   rw[e,lD,yk hj h0]
end Mq
set_option maxHeartbeats 4000000
namespace Mq
open Mt Md M42
noncomputable def sJ (u:List Int) (rs:List (List Int)) (g:List Int):Nat->List Int->Rat
 | 0,c=>if c=g then 1 else 0
 | m+1,c=>II u rs g (sJ u rs g m) c
theorem Cy (u:List Int) (rs:List (List Int)) (g:List Int):∀(k m:Nat),ir (pL u rs g k) (sJ u rs g m)=sJ u rs g (k+m) (m6 u.length 0)
 | 0,m=>by
  show (1:Rat)*sJ u rs g m (m6 u.length 0)+0=_
  rw[ar];grind
 | k+1,m=>by
  rw[ED]
  show ir (pL u rs g k) (sJ u rs g (m+1))=_
  rw[Cy u rs g k (m+1),show k+(m+1)=k+1+m by lia]
theorem xZ (g:List Int):∀{T:P2},qK T->ir T (fun c=>if c=g then 1 else 0)=eO T g
 | [],_=>rfl
 | p::T,h=>by
  unfold qK at h
  rw[B9,aH] at h
  rw[bF]
  have ih:=xZ g (T:=T) h.2
  unfold eO
  by_cases e:p.1=g
  ·rw[if_pos e,if_pos e]
   have:ir T (fun c=>if c=g then 1 else 0)=0:=by
    have hn:∀q∈T,q.1≠g:=fun q hq z=>h.1 (by rw[e,<- z];exact List.mem_map.mpr ⟨q,hq,rfl⟩)
    clear ih h
    induction T with
    | nil=>rfl
    | cons q T ihT =>
     rw[bF,if_neg (hn q i4),ihT fun r hr=>hn r (f7 _ hr)];grind
   rw[this];grind
  ·rw[if_neg e,if_neg e,ih];grind
theorem Cw {n:Nat}{rs:List (List Int)}{u g:List Int} (hR:ma n 5 rs) (n1:1<=n) (n4:n<=4) (hu:mv n 20 u) {k:Nat} (hk:k<=20):eO (pL u rs g k) g=sJ u rs g k (m6 n 0):=by
 obtain ⟨_,h2,_,_⟩:=KJ g hR n1 n4 hu k hk
 rw[<- xZ g h2]
 have:=Cy u rs g k 0
 rw[hu.len] at this
 exact this
structure WayB (S T m z:Nat) (y:Rat) (G Z:List Nat) (a:Nat):Prop where
 up:G.Pairwise (·<·)
 gs:∀s∈G,S<=s/\s<=T
 gl:G.length=m
 zs:∀s∈Z,S<=s/\s<=T
 zl:Z.length=z
 le:a<=E3 G*E3 Z
 eq:y*((E3 G*E3 Z:Nat):Rat)=(a:Rat)
noncomputable def CL (S T m z:Nat) (y:Rat):Prop:=∃G Z a,WayB S T m z y G Z a
noncomputable def cR (S T m z B:Nat) (x:Rat):Prop:=∃ys:List Rat,ys.length<=B/\(∀y∈ys,CL S T m z y)/\x=cz ys
section
variable {S T m z B C:Nat}{x y:Rat}
theorem cR.add (h:cR S T m z B x) (k:cR S T m z C y):cR S T m z (B+C) (x+y):=by
 obtain ⟨xs,h1,h2,rfl⟩:=h
 obtain ⟨ys,k1,k2,rfl⟩:=k
 exact ⟨xs++ys,by rw[t8];lia,fun w hw=>(List.mem_append.mp hw).elim (h2 w) (k2 w),(dR xs ys).symm⟩
theorem cR.zero:cR S T m z B 0:=⟨[],u9 _,by simp,rfl⟩
theorem cR.mono (h:cR S T m z B x) (l:B<=C):cR S T m z C x:=by
 obtain ⟨xs,h1,h2,h3⟩:=h
 exact ⟨xs,m8 h1 l,h2,h3⟩
theorem cR.start:cR S T 0 0 1 1:=⟨[1],i9 _,fun y hy=>by
 rw[List.mem_singleton.mp hy]
 exact ⟨[],[],1,aw,by simp,rfl,by simp,rfl,i9 _,by show (1:Rat)*((1*1:Nat):Rat)=((1:Nat):Rat);grind⟩,by show (1:Rat)=1+0;grind⟩
theorem CL.zero {b:Int} (h:CL S T m z y) (hS:0<S) (hT:S<=T) (b0:0<=b) (bS:b<=S):CL S T m (z+1) (y*cut b (S:Int)):=by
 obtain ⟨G,Z,a,w⟩:=h
 refine ⟨G,Z++[S],a*b.toNat,w.up,w.gs,w.gl,fun s hs=>?_,by rw[t8,w.zl];rfl,?_,?_⟩
 ·rcases List.mem_append.mp hs with e|e
  ·exact w.zs s e
  ·rw[List.mem_singleton.mp e];exact ⟨i9 _,hT⟩
 ·rw[Z1,<- P6,show E3 [S]=S from fU S]
  exact D5 w.le (by lia)
 ·rw[Z1,<- P6,show E3 [S]=S from fU S]
  exact mH hS b0 w.eq
theorem CL.grow {b:Int}{g:Nat} (h:CL (S+g) T m z y) (hS:0<S) (hT:S<=T) (b0:0<=b) (bS:b<=S) (hg:0<g):CL S T (m+1) z (y*cut b (S:Int)):=by
 obtain ⟨G,Z,a,w⟩:=h
 have ep:E3 (S::G)*E3 Z=E3 G*E3 Z*S:=by
  show S*E3 G*E3 Z=_
  rw[L8 S,P6,L8 S,P6]
 refine ⟨S::G,Z,a*b.toNat,List.pairwise_cons.mpr ⟨fun s hs=>by have:=(w.gs s hs).1;lia,w.up⟩,fun s hs=>?_,by rw[r6,w.gl],fun s hs=>⟨by have:=(w.zs s hs).1;lia,(w.zs s hs).2⟩,w.zl,?_,?_⟩
 ·rcases List.mem_cons.mp hs with e|e
  ·rw[e];exact ⟨i9 _,hT⟩
  ·have:=w.gs s e;exact ⟨by lia,this.2⟩
 ·rw[ep];exact D5 w.le (by lia)
 ·rw[ep];exact mH hS b0 w.eq
theorem cR.map {S' T' m' z':Nat}{q:Rat} (h:cR S T m z B x) (f:∀y,CL S T m z y->CL S' T' m' z' (y*q)):cR S' T' m' z' B (x*q):=by
 obtain ⟨xs,h1,h2,rfl⟩:=h
 refine ⟨xs.map (·*q),by rw[b9];exact h1,fun w hw=>?_,?_⟩
 ·obtain ⟨v,hv,rfl⟩:=List.mem_map.mp hw
  exact f v (h2 v hv)
 ·clear h1 h2
  induction xs with
  | nil=>show (0:Rat)*q=0;grind
  | cons v xs ih=>show (v+cz xs)*q=v*q+cz (xs.map (·*q));rw[<- ih];grind
theorem CO (S:Nat):∀(m d k:Nat),PL S k m ∣ PL S k (m+d)
 | 0,d,k=>Ap _
 | m+1,d,k=>by
  rw[show m+1+d=m+d+1 by lia]
  exact dH (iV _) (CO S m d (k+1))
theorem CL.vq {M Z0:Nat} (h:CL S T m z y) (hS:0<S) (hT:T<=80+20*M) (hm:m<=M) (hz:z<=Z0):Vq (DN M Z0) 1 y:=by
 obtain ⟨G,Z,a,w⟩:=h
 have hp:0<E3 G*E3 Z:=af (eW fun s hs=>by have:=(w.gs s hs).1;lia) (eW fun s hs=>by have:=(w.zs s hs).1;lia)
 have d1:E3 G ∣ PL (80+20*M) 1 M:=by
  have:=ud (S:=80+20*M) w.up fun s hs=>⟨by have:=(w.gs s hs).1;lia,by have:=(w.gs s hs).2;lia⟩
  rw[w.gl] at this
  refine C5 this ?_
  have:=CO (80+20*M) m (M - m) 1
  rwa [show m+(M - m)=M by lia] at this
 have d2:E3 Z ∣ L (80+20*M) ^ Z0:=by
  have:=CK (S:=80+20*M) (Z:=Z) fun s hs=>⟨by have:=(w.zs s hs).1;lia,by have:=(w.zs s hs).2;lia⟩
  rw[w.zl] at this
  exact C5 this (Nat.pow_dvd_pow _ hz)
 obtain ⟨t,ht⟩:E3 G*E3 Z ∣ DN M Z0:=by unfold DN;rw[L8 (E3 G)];exact dH d2 d1
 have e:=w.eq
 have hle:=w.le
 generalize E3 G*E3 Z=p at hp ht e hle
 have hpR:(0:Rat)<(p:Rat):=by exact_mod_cast hp
 have haR:(0:Rat)<=(a:Rat):=by exact_mod_cast u9 a
 have hlR:(a:Rat)<=(p:Rat):=by exact_mod_cast hle
 refine ⟨?_,?_,(a*t:Nat),?_⟩
 ·refine Rat.not_lt.mp fun hn=>?_
  have:=Z6 hn hpR
  grind
 ·refine Rat.not_lt.mp fun hn=>?_
  have:=Z6 hn hpR
  grind
 ·rw[ht]
  have e3:((p*t:Nat):Rat)=(p:Rat)*(t:Rat):=by norm_cast
  have e4:(((a*t:Nat):Int):Rat)=(a:Rat)*(t:Rat):=by norm_cast
  rw[e3,e4,<- e]
  grind
theorem cR.vq {M Z0:Nat} (h:cR S T m z B x) (hS:0<S) (hT:T<=80+20*M) (hm:m<=M) (hz:z<=Z0):Vq (DN M Z0) B x:=by
 obtain ⟨xs,h1,h2,rfl⟩:=h
 have:=rq (N:=DN M Z0) (B:=1) (xs:=xs) fun y hy=>(h2 y hy).vq hS hT hm hz
 rw[Ao] at this
 exact this.mono h1
theorem cR.bd {M Z0:Nat} (h:cR S T m z B x) (hS:0<S) (hT:T<=80+20*M) (hm:m<=M) (hz:z<=Z0) (hMZ:M+Z0<=20) (hB:B<=2 ^ 400):0<=x/\Bd 5700 x:=by
 have v:=h.vq hS hT hm hz
 refine ⟨v.nn,v.bd (CY _ _) ?_ (m8 (CZ hMZ) (w5 (by decide) (by decide)))⟩
 rw[show 2 ^ 5700=2 ^ 5300*2 ^ 400 from by rw[<- R9]]
 exact D5 (CZ hMZ) hB
end
structure vH (c g:List Nat):Prop where
 len:c.length=g.length
 le:∀j,c.getD j 0<=g.getD j 0
theorem jO:∀{c g:List Nat},vH c g->tot c<=tot g
 | [],[],_=>i9 _
 | x::c,y::g,h=>by
  have h0:x<=y:=h.le 0
  have:=jO (c:=c) (g:=g) ⟨by simpa using h.len,fun j=>h.le (j+1)⟩
  show x+tot c<=y+tot g
  lia
 | [],_::_,h=>by have:=h.len;simp at this
 | _::_,[],h=>by have:=h.len;simp at this
theorem wX:∀{c g:List Nat},vH c g->tot g<=tot c->c=g
 | [],[],_,_=>rfl
 | x::c,y::g,h,e=>by
  have h0:x<=y:=h.le 0
  have hL:vH c g:=⟨by simpa using h.len,fun j=>h.le (j+1)⟩
  have:=jO hL
  have e':y+tot g<=x+tot c:=e
  rw[wX hL (by lia),show x=y by lia]
 | [],_::_,h,_=>by have:=h.len;simp at this
 | _::_,[],h,_=>by have:=h.len;simp at this
theorem xX:∀{c g:List Nat},vH c g->tot c<tot g->∃j,j<c.length/\c.getD j 0<g.getD j 0
 | [],[],_,e=>absurd e (O2 _)
 | x::c,y::g,h,e=>by
  have h0:x<=y:=h.le 0
  by_cases hxy:x<y
  ·exact ⟨0,by simp,hxy⟩
  ·have hL:vH c g:=⟨by simpa using h.len,fun j=>h.le (j+1)⟩
   have e':x+tot c<y+tot g:=e
   obtain ⟨j,hj,hlt⟩:=xX hL (by lia)
   exact ⟨j+1,by simpa using hj,hlt⟩
 | [],_::_,h,_=>by have:=h.len;simp at this
 | _::_,[],h,_=>by have:=h.len;simp at this
theorem vH.inc {c g:List Nat}{j:Nat} (h:vH c g) (hj:j<c.length) (hlt:c.getD j 0<g.getD j 0):vH (bf c j) g :=
 ⟨by rw[og];exact h.len,fun i=>by
  rw[km hj]
  split
  ·rename_i e;subst e;lia
  ·exact h.le i⟩
theorem pW:∀c:List Nat,tN (cI c)=tot c
 | []=>rfl
 | x::c=>by
  show ((x:Nat):Int).toNat+tN (cI c)=x+tot c
  rw[pW c];lia
noncomputable def due (u:List Int) (rs:List (List Int)) (g:List Nat) (c:List Int):Rat:=sJ u rs (cI g) (tot g - tN c) c
noncomputable def pf (u:List Int) (rs:List (List Int)) (g c:List Nat) (i:Nat):Rat:=(if c=g then 1 else 0)+cz ((kN u rs (cI g) (cI c) i).map fun b=>cut b.1 (N8 u rs (cI c)).sum*due u rs g b.2)
section
variable {u:List Int}{rs:List (List Int)}{n:Nat}{g c:List Nat}
theorem xN:pf u rs g c 0=if c=g then 1 else 0:=by
 unfold pf
 show _+cz []=_
 show _+(0:Rat)=_
 grind
theorem Bv {i:Nat} (h:c.getD i 0<g.getD i 0):pf u rs g c (i+1)=pf u rs g c i+cut ((N8 u rs (cI c)).getD i 0) (N8 u rs (cI c)).sum*due u rs g (cI (bf c i)):=by
 unfold pf
 have hI:(cI c).getD i 0<(cI g).getD i 0:=by rw[fP,fP];lia
 rw[oA,if_pos hI,n9,dR,lD]
 have:cz [cut ((N8 u rs (cI c)).getD i 0) (N8 u rs (cI c)).sum*due u rs g (cI (bf c i))]=cut ((N8 u rs (cI c)).getD i 0) (N8 u rs (cI c)).sum*due u rs g (cI (bf c i)):=by
  show _+(0:Rat)=_;grind
 rw[B9,mD,this];grind
theorem FC {i:Nat} (h:¬ c.getD i 0<g.getD i 0):pf u rs g c (i+1)=pf u rs g c i:=by
 unfold pf
 have hI:¬ (cI c).getD i 0<(cI g).getD i 0:=by rw[fP,fP];lia
 rw[oA,if_neg hI]
theorem uZ (i:Nat):kN u rs (cI g) (cI g) i=[]:=by
 unfold kN pG
 rw[List.filter_eq_nil_iff.mpr fun j _=>by rw[decide_eq_false (Int.lt_irrefl _)];decide];rfl
theorem Cv:due u rs g (cI g)=1:=by
 unfold due
 rw[pW,mV]
 show (if cI g=cI g then (1:Rat) else 0)=1
 rw[if_pos rfl]
theorem rY (hu:u.length=n) (hg:g.length=n) (h:vH c g):pf u rs g c n=due u rs g (cI c):=by
 by_cases e:c=g
 ·subst e
  rw[Cv]
  unfold pf
  rw[uZ,if_pos rfl]
  show (1:Rat)+0=1;grind
 ·have hlt:tot c<tot g:=Nat.lt_of_not_le fun z=>e (wX h z)
  unfold pf
  rw[if_neg e]
  have e1:due u rs g (cI c)=II u rs (cI g) (sJ u rs (cI g) (tot g - tot c - 1)) (cI c):=by
   unfold due
   rw[pW,show tot g - tot c=tot g - tot c - 1+1 by lia];rfl
  rw[e1]
  unfold II
  rw[hu]
  have e2:∀b∈kN u rs (cI g) (cI c) n,cut b.1 (N8 u rs (cI c)).sum*due u rs g b.2=cut b.1 (N8 u rs (cI c)).sum*sJ u rs (cI g) (tot g - tot c - 1) b.2:=fun b hb=>by
   obtain ⟨j,hj,eb⟩:=mM hb
   rw[eb]
   dsimp only
   have hjc:j<c.length:=by rw[h.len,hg];exact hj
   unfold due
   rw[lD,pW,jP hjc,show tot g - (tot c+1)=tot g - tot c - 1 by lia]
  rw[ni e2];grind
structure Kb (u:List Int) (rs:List (List Int)) (n:Nat) (c:List Nat):Prop where
 cn:Cn u rs n (tot c) (cI c)
 le:(N8 u rs (cI c)).sum.toNat<=80+20*mN rs (cI c) 0
theorem rN (hR:ma n 5 rs) (n1:1<=n) (n4:n<=4) (hu:mv n 20 u) (hg:g.length=n) (g20:tot g<=20) (h:vH c g):Kb u rs n c:=by
 have ht:=jO h
 have hk:=wZ (rs:=rs) (u:=u) (g:=cI g) hu.len (tot c) c (by rw[h.len];exact hg) rfl fun j=>by rw[fP];have:=h.le j;lia
 obtain ⟨p,hp,e⟩:=List.mem_map.mp hk
 obtain ⟨w1,w2,w3,w4⟩:=KJ (cI g) hR n1 n4 hu (tot c) (by lia)
 have a:=w1 p hp
 have b:=(w3 p hp).le
 rw[e] at a b
 exact ⟨a,b⟩
theorem yn (hR:ma n 5 rs) (n1:1<=n) (n4:n<=4) (hu:mv n 20 u) (hg:g.length=n) (g20:tot g<=20):∀(d:Nat) (c:List Nat),vH c g->tot g - tot c=d ->
  mN rs (cI c) 0<=mN rs (cI g) 0/\zN rs (cI c) 0<=zN rs (cI g) 0/\(N8 u rs (cI c)).sum.toNat<=(N8 u rs (cI g)).sum.toNat /\
  (∀j,j<n->c.getD j 0<g.getD j 0->cR (N8 u rs (cI c)).sum.toNat (N8 u rs (cI g)).sum.toNat (mN rs (cI g) 0 - mN rs (cI c) 0) (zN rs (cI g) 0 - zN rs (cI c) 0) (4 ^ (d - 1)) (cut ((N8 u rs (cI c)).getD j 0) (N8 u rs (cI c)).sum*due u rs g (cI (bf c j)))) /\
  ∀i,i<=n->cR (N8 u rs (cI c)).sum.toNat (N8 u rs (cI g)).sum.toNat (mN rs (cI g) 0 - mN rs (cI c) 0) (zN rs (cI g) 0 - zN rs (cI c) 0) (4 ^ d) (pf u rs g c i)
 | 0,c,h,hd=>by
  have e:=wX h (by lia)
  subst e
  refine ⟨i9 _,i9 _,i9 _,fun j _ z=>absurd z (O2 _),fun i _=>?_⟩
  rw[mV,mV]
  unfold pf
  rw[uZ,if_pos rfl]
  have:(1:Rat)+cz (([]:List (Int × List Int)).map fun b=>cut b.1 (N8 u rs (cI c)).sum*due u rs c b.2)=1:=by
   show (1:Rat)+0=1;grind
  rw[this]
  exact cR.start
 | d+1,c,h,hd=>by
  have hlt:tot c<tot g:=by lia
  have hcl:c.length=n:=by rw[h.len];exact hg
  have R:=rN hR n1 n4 hu hg g20 h
  have hU:=R.cn.urn
  have hs:=hU.pos
  have key:∀j,j<n->c.getD j 0<g.getD j 0->mN rs (cI c) 0<=mN rs (cI g) 0/\zN rs (cI c) 0<=zN rs (cI g) 0/\(N8 u rs (cI c)).sum.toNat<=(N8 u rs (cI g)).sum.toNat/\cR (N8 u rs (cI c)).sum.toNat (N8 u rs (cI g)).sum.toNat (mN rs (cI g) 0 - mN rs (cI c) 0) (zN rs (cI g) 0 - zN rs (cI c) 0) (4 ^ d) (cut ((N8 u rs (cI c)).getD j 0) (N8 u rs (cI c)).sum*due u rs g (cI (bf c j))):=fun j hj hjl=>by
   have hjc:j<c.length:=by lia
   have hi:=h.inc hjc hjl
   obtain ⟨i1,i2,i3,_,i5⟩:=yn hR n1 n4 hu hg g20 d (bf c j) hi (by rw[jP hjc];lia)
   have i6:=i5 n (i9 n)
   rw[rY hu.len hg hi] at i6
   have hjI:j<(cI c).length:=by rw[W8];exact hjc
   obtain ⟨a1,a2,_⟩:=CQ rs (cI c) 0 j hjI (by rw[fP];lia)
   rw[ar,lD] at a1 a2
   have hrow:=hR.at hj
   have lb:(N8 u rs (cI c)).length=(rs.getD j []).length:=by rw[hU.len,hrow.len]
   have eS:(N8 u rs (cI (bf c j))).sum=(N8 u rs (cI c)).sum+(rs.getD j []).sum:=by rw[<- lD,sT hu.len (by rw[W8];exact hcl) hR hj,kF lb]
   have g0:0<=(rs.getD j []).sum:=by
    have:∀l:List Int,(∀y∈l,0<=y)->0<=l.sum:=fun l=>by
     induction l with
     | nil=>intro _;decide
     | cons y l ih=>intro h;rw[K5];have:=ih fun z hz=>h z (f7 _ hz);have:=h y i4;lia
    exact this _ fun y hy=>(hrow.nn y hy).1
   have eT:(N8 u rs (cI (bf c j))).sum.toNat=(N8 u rs (cI c)).sum.toNat+gN rs j:=by unfold gN;rw[eS];lia
   have b0:=(hU.getD j).1
   have b1:=aB hU j
   have eC:(((N8 u rs (cI c)).sum.toNat:Nat):Int)=(N8 u rs (cI c)).sum:=by lia
   have hS:0<(N8 u rs (cI c)).sum.toNat:=by lia
   rw[Rat.mul_comm]
   rw[a1,a2,eT] at i6
   rw[a1] at i2
   rw[a2] at i1
   rw[eT] at i3
   by_cases hg0:gN rs j=0
   ·rw[if_pos hg0] at i1 i2 i6
    rw[if_pos hg0,hg0,Nat.add_zero] at i6
    rw[hg0] at i3
    refine ⟨by lia,by lia,by lia,?_⟩
    rw[show zN rs (cI g) 0 - zN rs (cI c) 0=zN rs (cI g) 0 - (zN rs (cI c) 0+1)+1 by lia]
    refine i6.map fun y hy=>?_
    have:=hy.zero hS (by lia) b0 (by lia)
    rw[eC] at this
    exact this
   ·rw[if_neg hg0] at i1 i2 i6
    rw[if_neg hg0] at i6
    refine ⟨by lia,by lia,by lia,?_⟩
    rw[show mN rs (cI g) 0 - mN rs (cI c) 0=mN rs (cI g) 0 - (mN rs (cI c) 0+1)+1 by lia]
    refine i6.map fun y hy=>?_
    have:=hy.grow hS (by lia) b0 (by lia) (N4 hg0)
    rw[eC] at this
    exact this
  obtain ⟨j0,hj0,hjl0⟩:=xX h hlt
  obtain ⟨k1,k2,k3,_⟩:=key j0 (by lia) hjl0
  have ne:c≠g:=fun z=>by rw[z] at hlt;exact O2 _ hlt
  have part:∀i,i<=n->cR (N8 u rs (cI c)).sum.toNat (N8 u rs (cI g)).sum.toNat (mN rs (cI g) 0 - mN rs (cI c) 0) (zN rs (cI g) 0 - zN rs (cI c) 0) (i*4 ^ d) (pf u rs g c i):=fun i=>by
   induction i with
   | zero =>
    intro _
    rw[xN,if_neg ne]
    exact cR.zero
   | succ i ih =>
    intro hi
    by_cases hl:c.getD i 0<g.getD i 0
    ·rw[Bv hl,mT]
     exact (ih (by lia)).add (key i (by lia) hl).2.2.2
    ·rw[FC hl]
     exact (ih (by lia)).mono (Nat.mul_le_mul_right _ (X0 i))
  refine ⟨k1,k2,k3,fun j hj hl=>by rw[DS];exact (key j hj hl).2.2.2,fun i hi=>(part i hi).mono ?_⟩
  rw[mW,L8]
  exact dP _ (by lia)
theorem yo (hR:ma n 5 rs) (n1:1<=n) (n4:n<=4) (hu:mv n 20 u) (hg:g.length=n) (g20:tot g<=20) (h:vH c g):
  (∀j,j<n->c.getD j 0<g.getD j 0->0<=cut ((N8 u rs (cI c)).getD j 0) (N8 u rs (cI c)).sum*due u rs g (cI (bf c j))/\Bd 5700 (cut ((N8 u rs (cI c)).getD j 0) (N8 u rs (cI c)).sum*due u rs g (cI (bf c j))))/\(∀i,i<=n->0<=pf u rs g c i/\Bd 5700 (pf u rs g c i))/\0<=due u rs g (cI c)/\Bd 5700 (due u rs g (cI c)):=by
 obtain ⟨a1,a2,a3,a4,a5⟩:=yn hR n1 n4 hu hg g20 _ c h rfl
 have R:=rN hR n1 n4 hu hg g20 h
 have G:=rN hR n1 n4 hu hg g20 (c:=g) ⟨rfl,fun _=>i9 _⟩
 have hs:=R.cn.urn.pos
 have hS:0<(N8 u rs (cI c)).sum.toNat:=by lia
 have hMZ:mN rs (cI g) 0+zN rs (cI g) 0<=20:=by rw[DY,pW];exact g20
 have hB:∀e,e<=20->4 ^ e<=2 ^ 400:=fun e he=>by
  rw[show (4:Nat)=2 ^ 2 from rfl,<- Nat.pow_mul]
  exact w5 (by decide) (by lia)
 have b5:∀i,i<=n->0<=pf u rs g c i/\Bd 5700 (pf u rs g c i):=fun i hi=>(a5 i hi).bd hS G.le (tF _ _) (tF _ _) hMZ (hB _ (by lia))
 refine ⟨fun j hj hl=>(a4 j hj hl).bd hS G.le (tF _ _) (tF _ _) hMZ (hB _ (by lia)),b5,?_⟩
 rw[<- rY hu.len hg h]
 exact b5 n (i9 n)
theorem ES (hR:ma n 5 rs) (n1:1<=n) (n4:n<=4) (hu:mv n 20 u) (g20:tot g<=20):eO (pL u rs (cI g) (tot g)) (cI g)=due u rs g (cI (m6 n 0)):=by
 rw[Cw hR n1 n4 hu g20]
 have tz:∀m,tot (m6 m 0)=0:=fun m=>by
  induction m with
  | zero=>rfl
  | succ m ih=>rw[E4];show 0+tot _=0;rw[ih]
 unfold due
 rw[pW,tz,mU]
 unfold cI
 rw[X1];rfl
end
end Mq
namespace G
open PySem PySem.Spec PyProof.Rows L2 Mt Mq
structure CtD (mg:Str->Option d6):Prop where
 draws:∃t,mg "MOST_DRAWS"=some (.int 20 t)
noncomputable def aa (n:Nat) (d:A2):Bool:=K9 0 ((n:Int) - 1) d&&decide (bZ d<=20)
theorem zJ {n:Nat}{ks:List Nat} (hl:ks.length<=20) (hk:∀k∈ks,k<n):aa n (DI (cI ks))=true:=by
 unfold aa
 rw[V9,W8,decide_eq_true hl,vC]
 show ((cI ks).map G4).all (N5 0 ((n:Int) - 1))=true
 rw[G5]
 refine List.all_eq_true.mpr fun x hx=>?_
 obtain ⟨k,hk1,e⟩:=List.mem_map.mp hx
 have:=hk k hk1
 show (decide ((0:Int)<=x)&&decide (x<=(n:Int) - 1))=true
 rw[decide_eq_true (show (0:Int)<=x by lia),decide_eq_true (show x<=(n:Int) - 1 by lia)];rfl
theorem uQ {n:Nat}{d:A2} (h:aa n d=true):∃ks:List Nat,d=DI (cI ks)/\ks.length<=20/\∀k∈ks,k<n:=by
 unfold aa at h
 rw[A6] at h
 obtain ⟨hw,hl⟩:=h
 obtain ⟨ns,e,hn⟩:=aK hw
 subst e
 rw[V9] at hl
 refine ⟨ns.map Int.toNat,?_,by rw[b9];exact of_decide_eq_true hl,fun k hk=>?_⟩
 ·congr 1
  unfold cI
  rw[X2]
  clear hw hl
  induction ns with
  | nil=>rfl
  | cons x ns ih =>
   rw[B9,<- ih fun y hy=>hn y (f7 _ hy)]
   have:=hn x i4
   congr 1
   show x=((x.toNat:Nat):Int)
   lia
 ·obtain ⟨x,hx,e⟩:=List.mem_map.mp hk
  have:=hn x hx
  lia
structure Ku (st:Addr) (H:Hp) (n:Nat) (ns:List Int) (rs:List (List Int)) (a:Addr) (v:V):Prop where
 u:Dt st H (DI ns) (.ref a)
 uu:Mt.mv n 20 ns
 r:Dt st H (DR rs) v
 ru:Mt.ma n 5 rs
 n1:1<=n
 n4:n<=4
noncomputable def Ko (d e g:A2) (i:Nat):Prop:=(i=0/\dY 20 d=false) ∨ (i=1/\dY 20 d=true/\dU (bZ d) e=false) ∨ (i=4/\dY 20 d=true/\dU (bZ d) e=true/\aa (bZ d) g=false)
noncomputable def RefA (ec:Nat->Addr) (vs:List V) (H:Hp) (E:XK):Prop:=∃(st:Addr) (u v x:V) (d e g:A2) (i:Nat),vs=[u,v,x]/\Dt st H d u/\aN d/\Dt st H e v/\Ad e/\Dt st H g x/\aN g/\Ko d e g i/\∀H',j7 H H'->E (.ref (ec i)) none H'
theorem rQ {H:Hp}{k:List Int}:∀{T:P2}{kvs:List (List V0 × V)},QE H T kvs->k∈T.map (·.1)->∃v,jo kvs (Md.kI k)=some v/\oH H (eO T k) v
 | [],[],_,h=>by cases h
 | p::T,kv::kvs,⟨a,b,c⟩,h=>by
  obtain ⟨kk,x⟩:=kv
  have a:kk=Md.kI p.1:=a
  subst a
  unfold eO
  by_cases e:p.1=k
  ·rw[if_pos e,gS (by rw[e])]
   exact ⟨x,rfl,b⟩
  ·rw[if_neg e,eM (fun z=>e (Md.jy z))]
   refine rQ c ?_
   rcases List.mem_cons.mp h with z|z
   ·exact absurd z.symm e
   ·exact z
 | [],_::_,h',_=>h'.elim
 | _::_,[],h',_=>h'.elim
theorem uU (ks:List Nat) (j:Nat):(cI ks).count (j:Int)=ks.count j:=by
 unfold cI
 induction ks with
 | nil=>rfl
 | cons a ks ih =>
  rw[B9,pO,pO,ih]
  congr 1
  by_cases e:a=j
  ·subst e;simp
  ·have:¬ ((a:Int)=(j:Int)):=fun z=>e (by lia)
   simp[e,this]
section
variable {P:j9}{w:t9}{K:m9}{mg:Str->Option d6}{base:Heap}{f:Addr}{fd:C4}{ec:Nat->Addr}{Bs:Addr}
noncomputable def dZ (ec:Nat->Addr):Sp:=fun vs H Q E=>∃(a st:Addr) (xs:List V) (v:V) (d:A2),vs=[.ref a,v]/\H a=some (.tup xs)/\Dt st H d v/\aN d/\(aa xs.length d=true->∀H',j7 H H'->Q .non H')/\(aa xs.length d=false->∀H',j7 H H'->E (.ref (ec 4)) none H')
noncomputable abbrev fx:Stmt:=eI 32
theorem pC:C3 ["urn","thing"] ["urn","thing"] (v9 fx):=⟨rfl,rfl,rfl,by decide +kernel,rfl,by decide +kernel,by decide +kernel⟩
theorem pE (F:aY K "need_draws" "need_draws" fx f fd) (B:Bt mg) (C:CtD mg) (R:xk K mg ec Bs) (c1:S2 P w K mg base 2 "are_wholes" ["thing","low","high"] ag):M0 P w K mg base (jG P w) 3 f fd ["urn","thing"] (dZ ec):=by
 refine F.okX pC (fun vs H Q E h=>?_) (fun cdv A outer s H vs Q E hr h=>?_)
 ·obtain ⟨a,st,xs,v,d,rfl,_⟩:=h
  rfl
 obtain ⟨a,st,xs,v,d,rfl,ha,hd,hs,q1,q2⟩:=h
 obtain ⟨td,hD⟩:=C.draws
 refine ⟨_,v5 (R0 (PW.pt (jU (Y3 (V5 (B8 c1 hr rfl (b7 (pv 1) (b7 j8 (b7 (A7 sj (t7 B7 rfl B.len A5 (b7 (pv 0) d8)) j8) d8))))))
  (fF (N6 xS (t7 B7 rfl B.len A5 (b7 (pv 1) d8)) (V6 (v:=.int 20) rfl hD ⟨td,rfl⟩) (M5 _))))) (v5 (iI R.e4 (R.xc 4 (by decide)) ie (fun σ H Q Q' m q=>m _ _ q))) F6),?_⟩
 refine ⟨_,rfl,_,rfl,a,_,rfl,.inr (.of ha),_,_,rfl,rfl,_,st,d,0,_,rfl,hd,hs,fun H1 g1=>⟨_,rfl,?_⟩⟩
 unfold aa at q1 q2
 cases hw:K9 0 ((xs.length:Int) - 1) d with
 | false =>
  rw[hw,F8] at q2
  exact P8 (P8 (q2 rfl H1 g1))
 | true =>
  rw[hw,K6] at q1 q2
  obtain ⟨ns,e,_⟩:=aK hw
  subst e
  obtain ⟨b,e,_,hb⟩:=hd.di
  subst e
  rw[V9] at q1 q2
  refine Q3 ⟨_,rfl,b,_,rfl,.inr (.of (g1 _ _ hb)),_,_,rfl,rfl,_,rfl,?_⟩
  rw[b9]
  by_cases hl:ns.length<=20
  ·rw[decide_eq_false (show ¬ (20:Int)<(ns.length:Int) by lia)]
   exact Q3 (q1 (decide_eq_true hl) H1 g1)
  ·rw[decide_eq_true (show (20:Int)<(ns.length:Int) by lia)]
   exact P8 (q2 (decide_eq_false hl) H1 g1)
noncomputable def Dx (n:Nat) (ns:List Int) (rs:List (List Int)) (ks:List Nat):Rat:=due ns rs (P0 n ks) (cI (m6 n 0))
noncomputable def Gs:Sp:=fun vs H Q _=>∃(st a d:Addr) (v:V) (n:Nat) (ns:List Int) (rs:List (List Int)) (ks:List Nat),vs=[.ref a,v,.ref d]/\Ku st H n ns rs a v/\Dt st H (DI (cI ks)) (.ref d)/\(∀k∈ks,k<n)/\ks.length<=20 /\
 ∀r H',j7 H H'->H' r=some (.tup ((fr (Dx n ns rs ks)).map V.int))->Q (.ref r) H'
noncomputable def xB (ec:Nat->Addr):Sp:=fun vs H Q E=>RefA ec vs H E ∨ Gs vs H Q E
noncomputable abbrev GI:Stmt:=eI 39
theorem Fx:C3 ["urn","rule","draws","goal"] ["urn","rule","draws"] (v9 GI):=⟨rfl,rfl,rfl,by decide +kernel,rfl,by decide +kernel,by decide +kernel⟩
theorem JP (F:aY K "any_order" "any_order" GI f fd) (B:Bt mg) (c1:eZ P w K mg base 6 "need_urn_and_rule" ["urn","rule"] (vV ec)) (c2:eZ P w K mg base 3 "need_draws" ["urn","thing"] (dZ ec)) (c3:S2 P w K mg base 5 "chances_by_counts" ["urn","rule","goal","draws"] vZ):M0 P w K mg base (jG P w) 7 f fd ["urn","rule","draws"] (xB ec):=by
 refine F.okX Fx (fun vs H Q E h=>?_) (fun cdv A outer s H vs Q E hr h=>?_)
 ·rcases h with ⟨st,u,v,x,d,e,g,i,rfl,_⟩|⟨st,a,d,v,n,ns,rs,ks,rfl,_⟩
  ·rfl
  ·rfl
 refine ⟨_,(@n5 _ _ _ _ _ (iJ (aj c1 hr rfl iK (@b7 _ _ _ _ _ (pv 0) (@b7 _ _ _ _ _ (pv 1) d8 (by rfl)) (by rfl))))
  (@n5 _ _ _ _ _ (iJ (aj (c2.up (by decide)) hr rfl iK (@b7 _ _ _ _ _ (pv 0) (@b7 _ _ _ _ _ (pv 2) d8 (by rfl)) (by rfl))))
  (pM.nox (@n5 _ _ _ _ _ (@D6 _ _ 3 _ _ _ _ Fx.nd rfl (B5 rfl) (E6 K2 rfl B.tuple E7 (@b7 _ _ _ _ _ (J9 (N:=["kind","draws"]) (ix:=[none,some 2]) (ifs:=[]) (tc:=Q2) rfl (K3 rfl B.range (@b7 _ _ _ _ _ (t7 B7 rfl B.len A5 (@b7 _ _ _ _ _ (pv 0) d8 (by rfl))) d8 (by rfl)))
   (fun s H ex=>aE (i:=0) (by decide +kernel) rfl (B5 rfl) (.inr rfl)) (fun s H ex=>F9) (fun s H ex=>(BA rf qZ (JY (K:=K) rfl) (pv 1) (@b7 _ _ _ _ _ (pv 0) d8 (by rfl)))) rfl (by decide +kernel) (by rfl) (by rfl) (fun _=>rfl)) d8 (by rfl))) (by rfl) (by first|exact .inl rfl|exact .inr rfl))
  (@v5 _ _ _ (C7 (sd (lV hr) (B8 (c3.up (by decide)) hr rfl (@b7 _ _ _ _ _ (pv 0) (@b7 _ _ _ _ _ (pv 1) (@b7 _ _ _ _ _ (pv 3) (@b7 _ _ _ _ _ (t7 B7 rfl B.len A5 (@b7 _ _ _ _ _ (pv 2) d8 (by rfl))) d8 (by rfl)) (by rfl)) (by rfl)) (by rfl))) (pv 3) (fun _ _=>rfl)))))))),?_⟩
 rcases h with ⟨st,u,v,x,d,e,g,i,rfl,hu,hus,hv,hvo,hx,hxs,due,q⟩|⟨st,a,d,v,n,ns,rs,ks,rfl,hA,hT,hk,hkl,q⟩
 ·unfold Ko at due
  refine ⟨_,rfl,_,rfl,u,v,st,d,e,rfl,hu,hus,hv,hvo,fun hw H1 g1=>?_,fun hw hw2 H1 g1=>?_,fun hw hw2 H1 g1=>?_⟩
  ·rcases due with ⟨rfl,_⟩|⟨_,z,_⟩|⟨_,z,_⟩
   ·exact q H1 g1
   all_goals (rw[hw] at z;cases z)
  ·rcases due with ⟨_,z⟩|⟨rfl,_⟩|⟨_,_,z,_⟩
   ·rw[hw] at z;cases z
   ·exact q H1 g1
   ·rw[hw2] at z;cases z
  ·rcases due with ⟨_,z⟩|⟨_,_,z⟩|⟨rfl,_,_,z⟩
   ·rw[hw] at z;cases z
   ·rw[hw2] at z;cases z
   ·obtain ⟨ns,ed,_⟩:=pV hw
    subst ed
    obtain ⟨a,ea,_,ha⟩:=hu.di
    subst ea
    rw[V9] at z
    exact ⟨_,rfl,_,rfl,a,st,ns.map V.int,x,g,rfl,g1 _ _ ha,hx.kp (g1.kp st),hxs,(fun zt=>by rw[b9,z] at zt;cases zt),fun _ H2 g2=>q H2 (g1.trans g2)⟩
 obtain ⟨a',e,_,ha⟩:=hA.u.di
 cases e
 obtain ⟨d',e,_,hd⟩:=hT.di
 cases e
 have hU:=hA.uu
 have hR:=hA.ru
 have n1:=hA.n1
 have n4:=hA.n4
 have hul:=hU.len
 have uok:=xy hU n1 n4
 have rok:dU (bZ (DI ns):Int) (DR rs)=true:=by rw[V9,hU.len];exact tX hR
 have hlen:=hR.len
 have dok:aa n (DI (cI ks))=true:=zJ hkl hk
 have ge:cI (P0 n ks)=cI (P0 n ks):=rfl
 refine ⟨_,rfl,_,rfl,_,_,st,DI ns,DR rs,rfl,hA.u,gX (by rw[hU.len];lia),hA.r,⟨tQ (by lia),qf hR (by lia)⟩,(fun z=>by rw[uok] at z;cases z),(fun _ z=>by rw[rok] at z;cases z),fun _ _ H1 g1=>?_⟩
 refine ⟨_,rfl,_,rfl,a,st,ns.map V.int,.ref d,DI (cI ks),rfl,g1 _ _ ha,hT.kp (g1.kp st),gX (by rw[W8];lia),(fun _ H2 g2=>?_),(fun z=>by rw[b9,hul,dok] at z;cases z)⟩
 have g12:=g1.trans g2
 refine ⟨_,rfl,a,_,rfl,.inr (.of (g12 _ _ ha)),(n:Int),by rw[b9,hul],by lia,by lia,?_⟩
 have gl:(cI (P0 n ks)).length=n:=by rw[W8,aO]
 refine O4 (lo:=0) (n:=n) (sz (by lia)) (fun i ys H3=>j7 H2 H3/\i<=n/\ys=((cI (P0 n ks)).take i).map V.int) ⟨j7.refl _,u9 _,rfl⟩ (fun i ys H3 h=>?_) rfl (fun i ys H3 hi h=>?_) (fun ys H3 h=>?_)
 ·obtain ⟨_,hi,rfl⟩:=h
  rw[b9,A4,gl];lia
 ·obtain ⟨g3,hin,rfl⟩:=h
  have e0:(0:Int)+(i:Int)=(i:Int):=by lia
  rw[e0]
  have hT3:=(g12.trans g3) _ _ hd
  refine ⟨_,rfl,⟨d,_,rfl,hT3⟩,_,rfl,d,cI ks,(i:Int),rfl,rfl,.of hT3,g3,by lia,?_⟩
  have eg:(cI (P0 n ks))[i]?=some ((ks.count i:Nat):Int):=by
   unfold cI P0
   rw[n8,n8,M6 hi];rfl
  rw[C2,eg,n9,uU];rfl
 obtain ⟨g3,_,rfl⟩:=h
 intro pl hpl
 rw[show (cI (P0 n ks)).take n=cI (P0 n ks) from R5 (by lia)]
 refine ⟨pl,_,rfl,.inl ⟨.of f6,fun ga hga=>?_⟩⟩
 have g4:j7 H3 (t6 (t6 H3 pl (.lst ((cI (P0 n ks)).map V.int))) ga (.tup ((cI (P0 n ks)).map V.int))):=(j7.new hpl).trans (j7.new hga)
 have h4:t6 (t6 H3 pl (.lst ((cI (P0 n ks)).map V.int))) ga (.tup ((cI (P0 n ks)).map V.int)) ga=some (.tup ((cI (P0 n ks)).map V.int)):=f6
 try dsimp -proj only[N7]
 generalize t6 (t6 H3 pl (.lst ((cI (P0 n ks)).map V.int))) ga (.tup ((cI (P0 n ks)).map V.int))=H4 at g4 h4
 have g14:=(g12.trans g3).trans g4
 refine ⟨_,rfl,_,rfl,_,rfl,_,rfl,d,_,rfl,.inr (.of (g14 _ _ hd)),?_⟩
 rw[b9,W8]
 refine ⟨a,ga,st,v,n,ks.length,ns,cI (P0 n ks),rs,rfl,g14 _ _ ha,hU,h4,gl,hA.r.kp (g14.kp st),hR,n1,n4,hkl,fun p kvs H5 g5 hpn hp5 hq5=>?_⟩
 have tc:tot (P0 n ks)=ks.length:=xA hk
 have hkey:cI (P0 n ks)∈(pL ns rs (cI (P0 n ks)) ks.length).map (·.1):=wZ (rs:=rs) (g:=cI (P0 n ks)) hul ks.length (P0 n ks) (aO n ks) tc fun j=>by rw[fP];exact pP _
 obtain ⟨x,hx1,r,rfl,hr⟩:=rQ hq5 hkey
 have hval:eO (pL ns rs (cI (P0 n ks)) ks.length) (cI (P0 n ks))=Dx n ns rs ks:=by
  have:=ES (g:=P0 n ks) hR n1 n4 hU (by rw[tc];exact hkl)
  rw[tc] at this
  exact this
 rw[hval] at hr
 have hk5:H5 ga=some (.tup ((Md.kI (cI (P0 n ks))).map kV)):=by
  rw[g5 _ _ h4]
  unfold Md.kI
  rw[X2];rfl
 refine ⟨_,rfl,p,_,rfl,?_,q r H5 (g14.trans g5) hr⟩
 have:=jC.t (H:=H5) hp5 hk5
 rw[hx1] at this
 exact this
end
end G
namespace Mq
open PySem PySem.Spec L2 Mt Md
end Mq
namespace G
open PySem PySem.Spec PyProof.Rows L2 Mt Md Mq
section
variable {P:j9}{w:t9}{K:m9}{mg:Str->Option d6}{base:Heap}{f:Addr}{fd:C4}{ec:Nat->Addr}{Bs:Addr}
noncomputable def nA:Sp:=fun vs H Q _=>∃t b:Int,vs=[.int t,.int b]/\0<=t/\0<b/\t.natAbs<=2 ^ 13400/\b.natAbs<=2 ^ 13400/\∀p H',j7 H H'->H' p=some (.tup ((fr (cut t b)).map V.int))->Q (.ref p) H'
noncomputable abbrev Bc:Stmt:=eI 46
theorem wd:C3 ["_law_top","_law_bottom","_law_one","_law_other"] ["_law_top","_law_bottom"] (v9 Bc):=⟨rfl,rfl,rfl,by decide +kernel,rfl,by decide +kernel,by decide +kernel⟩
theorem HD (F:aY K "_law_fraction" "_law_fraction" Bc f fd) (B:Bt mg):M0 P w K mg base cH 1 f fd ["_law_top","_law_bottom"] nA:=by
 refine F.ok wd (fun vs H Q E h=>?_) (fun cdv A outer s H vs Q E hr h=>?_)
 ·obtain ⟨x,y,rfl,_⟩:=h
  rfl
 obtain ⟨t,b,rfl,ht,hb,hlt,hlb,q⟩:=h
 refine ⟨_,n5 (rR (i:=2) (j:=3) rfl wd.nd rfl rfl (by decide) rfl rfl (b7 (pv 1) (b7 (t7 va rfl B.abs boot_abs (b7 (pv 0) d8)) d8)) rfl)
  (n5 (uc K1 (N6 xS (pv 3) j8 (M5 _)) (v5 (rR (i:=2) (j:=3) rfl wd.nd rfl rfl (by decide) rfl rfl (b7 (pv 3) (b7 (A7 fK (pv 2) (pv 3)) d8)) rfl)))
  (v5 (C7 (D0 (b7 (A7 jW (pv 0) (pv 2)) (b7 (A7 jW (pv 1) (pv 2)) d8)))))),?_⟩
 have g:=FJ (t:=t) hb
 refine ⟨_,rfl,_,rfl,t,rfl,_,_,rfl,?_⟩
 rw[if_neg (show ¬ t<0 by lia)]
 refine ⟨fun m σ H2=>H2=H/\∃x' y':Int,0<=x'/\0<=y'/\σ=[some (.int t),some (.int b),some (.int x'),some (.int y')]/\m=y'.toNat/\R8 x' y'=R8 t b,⟨_,rfl,b,t,by lia,ht,rfl,rfl,Int.gcd_comm b t⟩,?_⟩
 rintro m σ H2 ⟨rfl,x',y',h1,h2,rfl,rfl,e⟩
 refine ⟨_,rfl,_,_,rfl,rfl,_,rfl,?_⟩
 by_cases hz:0<y'
 ·rw[decide_eq_true hz]
  refine P8 ⟨fun σ' H'=>H'=H2/\∃a c:Int,0<=a/\0<=c/\σ'=[some (.int t),some (.int b),some (.int a),some (.int c)]/\c.toNat<y'.toNat/\R8 a c=R8 t b,?_,?_⟩
  ·rintro σ' H' ⟨rfl,a,c,ha,hc,rfl,hlt,e2⟩
   exact ⟨_,hlt,rfl,a,c,ha,hc,rfl,rfl,e2⟩
  ·have hm:=aX x' (show y'≠0 by lia)
   have hm2:=X9 x' hz
   refine ⟨_,rfl,_,rfl,_,rfl,_,_,rfl,rfl,hz,_,_,rfl,?_⟩
   exact ⟨rfl,y',x' % y',h2,hm,rfl,by lia,by rw[uI h1 hz];exact e⟩
 ·rw[decide_eq_false hz]
  have hy:y'=0:=by lia
  subst hy
  have e2:x'=((R8 t b:Nat):Int):=by rw[<- e,DV];lia
  subst e2
  refine Q3 ⟨_,rfl,_,rfl,_,_,rfl,rfl,⟨g,xY hlt⟩,_,rfl,_,rfl,_,_,rfl,rfl,⟨g,xY hlb⟩,(by show 2<=i7;decide),fun p hp=>?_⟩
  refine q p _ (j7.new hp) ?_
  rw[f6,Cr hb];rfl
noncomputable abbrev GF:Stmt:=eI 48
theorem Js:C3 ["_law_one","_law_other"] ["_law_one","_law_other"] (v9 GF):=⟨rfl,rfl,rfl,by decide +kernel,rfl,by decide +kernel,by decide +kernel⟩
theorem JM (F:aY K "_law_by" "_law_by" GF f fd) (c1:S2 P w K mg base 1 "_law_fraction" ["_law_top","_law_bottom"] nA):M0 P w K mg base cH 2 f fd ["_law_one","_law_other"] eQ:=by
 refine F.ok Js (fun vs H Q E h=>?_) (fun cdv A outer s H vs Q E hr h=>?_)
 ·obtain ⟨p,q,x,y,n,m,rfl,_⟩:=h
  rfl
 obtain ⟨p,q,x,y,n,m,rfl,hp,hq,x0,y0,bx,by',hnm,k⟩:=h
 refine ⟨_,v5 (C7 (B8 c1 hr rfl (b7 (A7 bL (G1 N2 (pv 0) j8 (fun _ _=>rfl)) (G1 N2 (pv 1) j8 (fun _ _=>rfl))) (b7 (A7 bL (G1 N2 (pv 0) j8 (fun _ _=>rfl)) (G1 N2 (pv 1) j8 (fun _ _=>rfl))) d8)))),?_⟩
 have hp':H p=some (.tup [.int x.num,.int x.den]):=hp
 have hq':H q=some (.tup [.int y.num,.int y.den]):=hq
 have b1:A9 x.num<=2 ^ 20:=U1 bx.num (by lia)
 have b2:A9 y.num<=2 ^ 20:=U1 by'.num (by lia)
 have b3:A9 (x.den:Int)<=2 ^ 20:=U1 (by rw[P1];exact bx.den) (by lia)
 have b4:A9 (y.den:Int)<=2 ^ 20:=U1 (by rw[P1];exact by'.den) (by lia)
 refine ⟨_,rfl,p,_,_,_,rfl,rfl,.of hp',C8 (j:=0) rfl,_,rfl,q,_,_,_,rfl,rfl,.of hq',C8 (j:=0) rfl,_,_,rfl,rfl,⟨b1,b2⟩,
  _,rfl,p,_,_,_,rfl,rfl,.of hp',C8 (j:=1) rfl,_,rfl,q,_,_,_,rfl,rfl,.of hq',C8 (j:=1) rfl,_,_,rfl,rfl,⟨b3,b4⟩,_,_,rfl,?_,?_,?_,?_,?_⟩
 ·exact bU x0 y0
 ·have h1:=x.den_nz;have h2:=y.den_nz
  have:=af (N4 h1) (N4 h2)
  rw[<- aW];lia
 ·rw[Q0]
  refine m8 (D5 bx.num by'.num) ?_
  rw[<- R9]
  exact w5 (by decide) (by lia)
 ·rw[Q0]
  refine m8 (D5 bx.den by'.den) ?_
  rw[<- R9]
  exact w5 (by decide) (by lia)
 ·rw[yu];exact k
noncomputable abbrev rM:Stmt:=eI 47
theorem AV:C3 ["_law_one","_law_other"] ["_law_one","_law_other"] (v9 rM):=⟨rfl,rfl,rfl,by decide +kernel,rfl,by decide +kernel,by decide +kernel⟩
theorem BL (F:aY K "_law_plus" "_law_plus" rM f fd) (c1:S2 P w K mg base 1 "_law_fraction" ["_law_top","_law_bottom"] nA):M0 P w K mg base cH 2 f fd ["_law_one","_law_other"] iG:=by
 refine F.ok AV (fun vs H Q E h=>?_) (fun cdv A outer s H vs Q E hr h=>?_)
 ·obtain ⟨p,q,x,y,n,m,rfl,_⟩:=h
  rfl
 obtain ⟨p,q,x,y,n,m,rfl,hp,hq,x0,y0,bx,by',hnm,k⟩:=h
 refine ⟨_,v5 (C7 (B8 c1 hr rfl (b7 (A7 P7 (A7 bL (G1 N2 (pv 0) j8 (fun _ _=>rfl)) (G1 N2 (pv 1) j8 (fun _ _=>rfl))) (A7 bL (G1 N2 (pv 1) j8 (fun _ _=>rfl)) (G1 N2 (pv 0) j8 (fun _ _=>rfl)))) (b7 (A7 bL (G1 N2 (pv 0) j8 (fun _ _=>rfl)) (G1 N2 (pv 1) j8 (fun _ _=>rfl))) d8)))),?_⟩
 have hp':H p=some (.tup [.int x.num,.int x.den]):=hp
 have hq':H q=some (.tup [.int y.num,.int y.den]):=hq
 have b1:A9 x.num<=2 ^ 20:=U1 bx.num (by lia)
 have b2:A9 y.num<=2 ^ 20:=U1 by'.num (by lia)
 have b3:A9 (x.den:Int)<=2 ^ 20:=U1 (by rw[P1];exact bx.den) (by lia)
 have b4:A9 (y.den:Int)<=2 ^ 20:=U1 (by rw[P1];exact by'.den) (by lia)
 refine ⟨_,rfl,p,_,_,_,rfl,rfl,.of hp',C8 (j:=0) rfl,_,rfl,q,_,_,_,rfl,rfl,.of hq',C8 (j:=1) rfl,_,_,rfl,rfl,⟨b1,b4⟩,
  _,rfl,q,_,_,_,rfl,rfl,.of hq',C8 (j:=0) rfl,_,rfl,p,_,_,_,rfl,rfl,.of hp',C8 (j:=1) rfl,_,_,rfl,rfl,⟨b2,b3⟩,_,_,rfl,rfl,
  _,rfl,p,_,_,_,rfl,rfl,.of hp',C8 (j:=1) rfl,_,rfl,q,_,_,_,rfl,rfl,.of hq',C8 (j:=1) rfl,_,_,rfl,rfl,⟨b3,b4⟩,_,_,rfl,?_,?_,?_,?_,?_⟩
 ·exact Jc (bU x0 (by lia)) (bU y0 (by lia))
 ·have h1:=x.den_nz;have h2:=y.den_nz
  have:=af (N4 h1) (N4 h2)
  rw[<- aW];lia
 ·refine m8 (Fo _ _) ?_
  rw[Q0,Q0]
  have a1:=D5 bx.num by'.den
  have a2:=D5 by'.num bx.den
  rw[<- R9] at a1 a2
  have a3:2 ^ (n+m)<=2 ^ 13000:=w5 (by decide) hnm
  rw[Ld m n] at a2
  have a4:2 ^ 13000+2 ^ 13000<=2 ^ 13400:=by
   rw[<- Nat.two_mul,<- KG]
   exact w5 (by decide) (by decide)
  exact m8 (Jb (m8 a1 a3) (m8 a2 a3)) a4
 ·rw[Q0]
  refine m8 (D5 bx.den by'.den) ?_
  rw[<- R9]
  exact w5 (by decide) (by lia)
 ·rw[yx];exact k
end
end G
namespace L2
open PySem PySem.Spec PyProof.Rows
theorem Cd (K:m9) (d:A2):W.kitAny K (.type (Gg d)) [.type "tuple",.type "list"]=some (lB d):=by cases d <;> kernel_rfl
section
variable {X:Cx}
theorem qF:bp X (.builtin "isinstance") (fun xs H Q=>∃x st d p,xs=[x,.ref p]/\Dt st H d x/\BM d=true/\H p=some (.tup [.ty "tuple",.ty "list"])/\Q (.bl (lB d)) H):=by
 intro pins s σ H xs us Q I r h
 obtain ⟨x,st,d,p,rfl,hd,ok,hp,q⟩:=h
 cases r with
 | cons r1 rr =>
  cases rr with
  | cons r2 rr =>
   cases rr
   cases r2
   have e:=Cd X.K d
   obtain ⟨_,its,rv,ob,ho,hc,n,hdt⟩:=(show N9 X.prog X.w H s.heap p (.tup [.ty "tuple",.ty "list"]) from I.hok p _ hp)
   cases rv with
   | cons q1 rv =>
    cases rv with
    | cons q2 rv =>
     cases rv
     cases q1
     cases q2
     obtain ⟨oc,od,dt,sl⟩:=ob
     simp only at hc hdt
     subst hc hdt
     have fin:∀tk,EP X pins σ Q (.bool (lB d)) { s with toks:=tk }:=fun tk=>⟨.bl (lB d),H,I.tok tk,rfl,q⟩
     cases d with
     | none =>
      unfold Dt at hd
      subst hd
      cases r1
      exact IT W.kitx_none I.kIn U4 ho e (fun z=>nomatch z) fin
     | int i =>
      unfold Dt at hd
      subst hd
      obtain ⟨t,rfl⟩:=r1
      exact IT W.kitx_int I.kIn U4 ho e (fun z=>nomatch z) fin
     | tuple ds =>
      unfold Dt at hd
      obtain ⟨a,xs,e1,_,ha,_⟩:=hd
      subst e1
      cases r1
      obtain ⟨_,_,_,o,h1,h2,_⟩:=(show N9 X.prog X.w H s.heap a (.tup xs) from I.hok a _ ha)
      exact IT W.kitx_tuple I.kIn ⟨o,h1,h2⟩ ho e (fun z=>nomatch z) fin
     | _=>cases (show false=true from ok)
end
end L2
namespace G
open PySem PySem.Spec PyProof.Rows L2 Mt Md
section
variable {P:j9}{w:t9}{K:m9}{mg:Str->Option d6}{base:Heap}{f:Addr}{fd:C4}{ec:Nat->Addr}{Bs:Addr}
noncomputable abbrev nI:Stmt:=eI 56
theorem xF:C3 ["_law_found","_law_due_here"] ["_law_found","_law_due_here"] (v9 nI):=⟨rfl,rfl,rfl,by decide +kernel,rfl,by decide +kernel,by decide +kernel⟩
noncomputable def nu:Sp:=fun vs H Q _=>∃v,vs=[v,v]/\(v=.non ∨ ∃i,v=.int i)/\∀H',j7 H H'->Q (.bl true) H'
theorem BJ (F:aY K "_law_same" "_law_same" nI f fd) (B:Bt mg):M0 P w K mg base cH 1 f fd ["_law_found","_law_due_here"] nu:=by
 refine F.ok xF (fun vs H Q E h=>?_) (fun cdv A outer s H vs Q E hr h=>?_)
 ·obtain ⟨v,rfl,_⟩:=h
  rfl
 obtain ⟨v,rfl,hv,q⟩:=h
 refine ⟨_,n5 (R0 (V5 (t7 qF rfl B.isinstance A1 (b7 (pv 1) (b7 (D0 (b7 (S8 rfl B.tuple E7) (b7 (S8 rfl B.list fR) d8))) d8)))) qj F6)
  (v5 (C7 (cC (cN (GX hr.units) (pv 0) (pv 1) (M5 _)) (cB (cN ik (t7 (Q4 kg) rfl B.isinstance A1 (b7 (pv 0) (b7 (S8 rfl B.bool Df) d8))) (t7 (Q4 kg) rfl B.isinstance A1 (b7 (pv 1) (b7 (S8 rfl B.bool Df) d8))) (M5 _)))))),?_⟩
 obtain ⟨d,hd,h1,h2,h3,h4,h5⟩:∃d:A2,(∀(st:Addr) (H':Hp),Dt st H' d v)/\BM d=true/\lB d=false/\T5 d=true/\gH d d=true/\yh d=false:=by
  rcases hv with rfl|⟨i,rfl⟩
  ·exact ⟨.none,fun st H'=>Dt.non _ _,rfl,rfl,by decide,by decide,rfl⟩
  ·exact ⟨.int i,fun st H'=>Dt.int _ _ _,rfl,rfl,by unfold T5;simp[U7,dw],by unfold gH;simp,rfl⟩
 refine ⟨_,rfl,(by show 2<=i7;decide),fun p hp=>⟨v,0,d,p,rfl,hd 0 _,h1,f6,_,rfl,?_⟩⟩
 rw[h2]
 refine Q3 ⟨_,rfl,_,rfl,0,d,d,hd 0 _,hd 0 _,h3,h3,_,rfl,?_⟩
 rw[h4]
 refine P8 ⟨_,rfl,v,0,d,rfl,hd 0 _,_,rfl,v,0,d,rfl,hd 0 _,rfl,?_⟩
 rw[decide_eq_true rfl]
 exact q _ (j7.new hp)
end
section
variable {P:j9}{w:t9}{K:m9}{mg:Str->Option d6}{base:Heap}{f:Addr}{fd:C4}
noncomputable def wa:Sp:=fun vs H Q _=>∃(a c st:Addr) (v:V) (n:Nat) (ns cs:List Int) (rs:List (List Int)),vs=[.ref a,v,.ref c]/\H a=some (.tup (ns.map V.int))/\ns.length=n/\Dt st H (DR rs) v/\Mt.ma n 5 rs/\n<=4/\cs.length=n/\(H c=some (.tup (cs.map V.int)) ∨ H c=some (.lst (cs.map V.int)))/\(∀x∈cs,0<=x/\x<=100) /\
 ∀p H',j7 H H'->H' p=some (.tup ((N8 ns rs cs).map V.int))->Q (.ref p) H'
noncomputable abbrev Bf:Stmt:=eI 49
theorem GB:C3 ["_law_urn","_law_rule_here","_law_counts"] ["_law_urn","_law_rule_here","_law_counts"] (v9 Bf):=⟨rfl,rfl,rfl,by decide +kernel,rfl,by decide +kernel,by decide +kernel⟩
theorem HI (F:aY K "_law_behind" "_law_behind" Bf f fd) (B:Bt mg):M0 P w K mg base cH 1 f fd ["_law_urn","_law_rule_here","_law_counts"] wa:=by
 refine F.ok GB (fun vs H Q E h=>?_) (fun cdv A outer s H vs Q E hr h=>?_)
 ·obtain ⟨a,c,st,v,n,ns,cs,rs,rfl,_⟩:=h
  rfl
 obtain ⟨a,c,st,v,n,ns,cs,rs,rfl,ha,hn,hv,hR,n4,hcl,hc,hcb,q⟩:=h
 refine ⟨_,v5 (C7 (E6 K2 rfl B.tuple E7 (b7
  (J9 (N:=["_law_kind","_law_urn","_law_counts","_law_rule_here"]) (ix:=[none,some 0,some 2,some 1]) (ifs:=[]) (tc:=Q2) rfl
   (K3 rfl B.range (b7 (t7 B7 rfl B.len A5 (b7 (pv 0) d8)) d8))
   (fun s H ex=>aE (i:=0) (by decide +kernel) rfl (Z7 rfl) (.inl rfl)) (fun s H ex=>F9)
   (fun s H ex=>A7 P7 (G1 (ixK (K:=K) rfl) (pv 1) (pv 0) (fun _ _=>rfl))
    (t7 (Jm (K:=K) rfl rfl) rfl B.sum qW (b7
     (J9 (N:=["_law_often","_law_row","_law_kind"]) (ix:=[none,none,some 0]) (ifs:=[]) (tc:=Q2) rfl
      (uf (K:=K) rfl rfl B.zip (b7 (pv 2) (b7 (pv 3) d8)))
      (fun s H ex=>Ej (K:=K) (n:=2) rfl rfl (S4 (aE (i:=0) (by decide +kernel) rfl (B5 rfl) (.inr rfl)) (S4 (aE (i:=1) (by decide +kernel) rfl (B5 rfl) (.inr rfl)) fH)))
      (fun s H ex=>F9)
      (fun s H ex=>A7 fJ (pv 0) (G1 (ixK (K:=K) rfl) (pv 1) (pv 2) (fun _ _=>rfl)))
      rfl (by decide +kernel) (by rfl) (by rfl) (fun _=>rfl)) d8)))
   rfl (by decide +kernel) (by rfl) (by rfl) (fun _=>rfl)) d8))),?_⟩
 obtain ⟨r,xs,er,_,hr2,hds⟩:=hv.untup
 subst er
 have hxl:=hds.len
 rw[b9,hR.len] at hxl
 refine ⟨_,rfl,a,_,rfl,.inr (.of ha),_,rfl,by rw[b9];lia,by rw[b9];lia,?_⟩
 have en:(((ns.map V.int).length:Nat):Int).toNat=n:=by rw[b9];lia
 rw[en]
 have bl:(N8 ns rs cs).length=n:=by unfold N8;simp[hn]
 refine O4 (lo:=0) (n:=n) (sz (by lia)) (fun i ys H2=>j7 H H2/\i<=n/\ys=((N8 ns rs cs).take i).map V.int) ⟨j7.refl H,u9 _,rfl⟩ (fun i ys H2 h=>?_) rfl (fun i ys H2 hi h=>?_) (fun ys H2 h=>?_)
 ·obtain ⟨_,hi,rfl⟩:=h
  rw[b9,A4,bl];lia
 ·obtain ⟨g2,hin,rfl⟩:=h
  have e0:(0:Int)+(i:Int)=(i:Int):=by lia
  rw[e0]
  have hnsi:(ns.map V.int)[i]?=some (.int (ns.getD i 0)):=by
   rw[n8,d9 (by lia:i<ns.length),j6,d9 (by lia:i<ns.length)];rfl
  refine ⟨_,rfl,_,rfl,a,_,_,_,rfl,rfl,.of (g2 _ _ ha),C8 hnsi,_,rfl,_,rfl,c,r,cs.map V.int,xs,rfl,.of (g2 _ _ hr2),?_⟩
  have hpl:(W5 i cs rs).length=n:=by unfold W5;rw[kM,hcl,hR.len];lia
  have turn:∀(j:Nat) (zs:List V) (H3:Hp) (x y:V) (p:Addr),(cs.map V.int)[j]?=some x->xs[j]?=some y->H3 p=none->(j7 H H3/\j<=n/\zs=((W5 i cs rs).take j).map V.int) ->
    ∀(σ0:L2.St),σ0=[none,none,some (.int (i:Int))]->fe (rI Fd fun i j=>.int (i*j)) (O9 0) (fe (GN K) (O9 1) (O9 2)) ((σ0.set 0 (some x)).set 1 (some y)) (t6 H3 p (.tup [x,y])) fun z H'=>j7 H H'/\j+1<=n/\zs++[z]=((W5 i cs rs).take (j+1)).map V.int:=by
   intro j zs H3 x y p hx hy hp h σ0 hσ
   subst hσ
   obtain ⟨g3,hjn,rfl⟩:=h
   rw[n8] at hx
   obtain ⟨cj,hcj,ex⟩:=Option.map_eq_some_iff.mp hx
   subst ex
   obtain ⟨d,hd,dt⟩:=hds.get hy
   rw[n8] at hd
   obtain ⟨row,hrow,ed⟩:=Option.map_eq_some_iff.mp hd
   subst ed
   obtain ⟨rb,eb,_,hb⟩:=dt.di
   subst eb
   have hjl:=(List.getElem?_eq_some_iff.mp hcj).1
   have hrl:row.length=n:=(hR.row row (B0 hrow)).len
   have g4:=g3.trans (j7.new hp (o:=.tup [.int cj,.ref rb]))
   have hri:(row.map V.int)[i]?=some (.int (row.getD i 0)):=by
    rw[n8,d9 (by lia:i<row.length),j6,d9 (by lia:i<row.length)];rfl
   have hcb':=hcb cj (B0 hcj)
   refine ⟨_,rfl,_,rfl,_,rfl,rb,_,_,_,rfl,rfl,.of (g4 _ _ hb),C8 hri,_,_,rfl,rfl,.inl ⟨by lia,by lia⟩,g4,by lia,?_⟩
   have e2:(W5 i cs rs)[j]?=some (cj*row.getD i 0):=by unfold W5;rw[jd,hcj,hrow]
   rw[C2,e2,n9];rfl
  have fin:∀(zs:List V) (H3:Hp),(j7 H H3/\n<=n/\zs=((W5 i cs rs).take n).map V.int)->∀p,H3 p=none ->
    ∃(p':Addr) (ms:List Int),([.ref p]:List V)=[.ref p']/\(dC K (t6 H3 p (.lst zs)) p' (ms.map V.int) ∨ aQ K (t6 H3 p (.lst zs)) p' (ms.map V.int))/\∃i_1 j,(V.int (ns.getD i 0))=.int i_1/\V.int ms.sum=.int j/\(j7 H (t6 H3 p (.lst zs))/\i+1<=n/\((N8 ns rs cs).take i).map V.int++[V.int (i_1+j)]=((N8 ns rs cs).take (i+1)).map V.int):=by
   intro zs H3 h p hp
   obtain ⟨g3,_,rfl⟩:=h
   rw[show (W5 i cs rs).take n=W5 i cs rs from R5 (by lia)]
   refine ⟨p,W5 i cs rs,rfl,.inl (.of f6),_,_,rfl,rfl,g3.trans (j7.new hp),hi,?_⟩
   have e3:(N8 ns rs cs)[i]?=some (ns.getD i 0+(W5 i cs rs).sum):=by
    unfold N8
    rw[n8,M6 (by lia),Q6,jA rs i cs 0 (by rw[hcl,hR.len];lia),eF]
   rw[C2,e3,n9];rfl
  have lx:(cs.map V.int).length=n:=by rw[b9];exact hcl
  rcases hc with hc|hc
  ·refine .inl ⟨.of (g2 _ _ hc),?_⟩
   refine sS (K:=K) (a:=c) (b:=r) (xs:=cs.map V.int) (ys:=xs) (sz (by lia)) (by lia) (fun j zs H3=>j7 H H3/\j<=n/\zs=((W5 i cs rs).take j).map V.int) ⟨g2,u9 _,rfl⟩ (fun j zs H3 h=>?_) (fun j zs H3 _ h=>⟨.of (h.1 _ _ hc),.of (h.1 _ _ hr2)⟩) ⟨rfl,rfl⟩ (fun j zs H3 x y p hx hy hp h=>turn j zs H3 x y p hx hy hp h _ rfl) (fun zs H3 h=>?_)
   ·obtain ⟨_,hj,rfl⟩:=h
    rw[b9,A4,hpl];lia
   ·rw[lx] at h
    exact fun p hp=>fin zs H3 h p hp
  ·refine .inr ⟨.of (g2 _ _ hc),?_⟩
   refine CJ (K:=K) (a:=c) (b:=r) (xs:=cs.map V.int) (ys:=xs) (sz (by lia)) (by lia) (fun j zs H3=>j7 H H3/\j<=n/\zs=((W5 i cs rs).take j).map V.int) ⟨g2,u9 _,rfl⟩ (fun j zs H3 h=>?_) (fun j zs H3 _ h=>⟨.of (h.1 _ _ hc),.of (h.1 _ _ hr2)⟩) ⟨rfl,rfl⟩ (fun j zs H3 x y p hx hy hp h=>turn j zs H3 x y p hx hy hp h _ rfl) (fun zs H3 h=>?_)
   ·obtain ⟨_,hj,rfl⟩:=h
    rw[b9,A4,hpl];lia
   ·rw[lx] at h
    exact fun p hp=>fin zs H3 h p hp
 ·obtain ⟨g2,_,rfl⟩:=h
  intro p hp
  refine ⟨p,_,rfl,.inl ⟨.of f6,fun l hl=>?_⟩⟩
  refine q l _ ((g2.trans (j7.new hp)).trans (j7.new hl)) ?_
  rw[f6,<- bl,D8]
end
end G
namespace Mq
open PySem PySem.Spec L2 Mt Md M42
noncomputable def gT (rows:List (List Nat)) (o:Nat):List (List Nat):=rows.flatMap fun r=>(D4 (o+1)).map fun k=>r++[k]
noncomputable def S0 (g:List Nat) (i:Nat):List (List Nat):=(g.take i).foldl gT [[]]
variable {g:List Nat}{i:Nat}
theorem fB (h:i<g.length):S0 g (i+1)=gT (S0 g i) (g.getD i 0):=by
 unfold S0
 rw[C2,d9 h,List.foldl_append,j6,d9 h];rfl
variable {c:List Nat}
theorem qc {rows:List (List Nat)}{o:Nat}:c∈gT rows o ↔ ∃r∈rows,∃k,k<=o/\c=r++[k]:=by
 unfold gT
 rw[List.mem_flatMap]
 constructor
 ·rintro ⟨r,hr,h⟩
  obtain ⟨k,hk,e⟩:=List.mem_map.mp h
  exact ⟨r,hr,k,by have:=List.mem_range.mp hk;lia,e.symm⟩
 ·rintro ⟨r,hr,k,hk,e⟩
  exact ⟨r,hr,List.mem_map.mpr ⟨k,List.mem_range.mpr (by lia),e.symm⟩⟩
theorem kT (o:Nat):∀rows:List (List Nat),(gT rows o).length=rows.length*(o+1)
 | []=>by unfold gT;simp
 | r::rows=>by
  have:=kT o rows
  unfold gT at this ⊢
  rw[mF,t8,this,b9,Q7,r6,mT];lia
theorem rn:∀(g:List Nat) (j:Nat),g.getD j 0<=tot g
 | [],j=>by simp
 | x::g,0=>by show x<=x+tot g;lia
 | x::g,j+1=>by have:=rn g j;show g.getD j 0<=x+tot g;lia
theorem nM {g:List Nat} (h:tot g<=20):∀i,i<=g.length->(S0 g i).length<=21 ^ i
 | 0,_=>by show 1<=1;exact i9 1
 | i+1,hi=>by
  rw[fB (by lia),kT,mW]
  exact D5 (nM h i (by lia)) (by have:=rn g i;lia)
theorem hW {g:List Nat}:∀(i:Nat),i<=g.length->∀{c:List Nat},c∈S0 g i ↔ c.length=i/\∀j,j<i->c.getD j 0<=g.getD j 0
 | 0,_,c=>by
  show c∈[[]] ↔ _
  rw[List.mem_singleton]
  constructor
  ·rintro rfl;exact ⟨rfl,fun j hj=>by lia⟩
  ·rintro ⟨h,_⟩;exact List.length_eq_zero_iff.mp h
 | i+1,hi,c=>by
  rw[fB (by lia),qc]
  have gl:∀(r:List Nat) (k j:Nat),r.length=i->(r++[k]).getD j 0=if j<i then r.getD j 0 else if j=i then k else 0:=fun r k j hr=>by
   rw[j6,List.getElem?_append,hr]
   split
   ·rw[j6]
   ·split
    ·rename_i h1 h2;subst h2;simp
    ·rename_i h1 h2
     rw[M8 (by simp;lia)];rfl
  constructor
  ·rintro ⟨r,hr,k,hk,rfl⟩
   obtain ⟨h1,h2⟩:=(hW i (by lia)).mp hr
   refine ⟨by simp[h1],fun j hj=>?_⟩
   rw[gl r k j h1]
   split
   ·exact h2 j (by lia)
   ·have:j=i:=by lia
    subst this
    rw[if_pos rfl];exact hk
  ·rintro ⟨h1,h2⟩
   have hd:c.take i++[c.getD i 0]=c:=by
    have e:=List.take_append_drop i c
    have:c.drop i=[c.getD i 0]:=by
     rw[tG (by lia),List.drop_eq_nil_of_le (by lia),j6,d9 (by lia)];rfl
    rw[<- this];exact e
   refine ⟨c.take i,(hW i (by lia)).mpr ⟨by rw[A4];lia,fun j hj=>?_⟩,c.getD i 0,h2 i (by lia),hd.symm⟩
   have:=h2 j (by lia)
   rw[j6,Dp,if_pos hj,<- j6]
   exact this
theorem eV :c∈S0 g g.length ↔ vH c g:=by
 rw[hW g.length (i9 _)]
 constructor
 ·rintro ⟨h1,h2⟩
  refine ⟨h1,fun j=>?_⟩
  by_cases hj:j<g.length
  ·exact h2 j hj
  ·rw[j6,M8 (by lia)];exact u9 _
 ·rintro ⟨h1,h2⟩
  exact ⟨h1,fun j _=>h2 j⟩
theorem EE (a b:Nat):HT.N0 [(a:Int)] [(b:Int)]=decide (a<b):=by
 show (if (a:Int)=b then HT.N0 [] [] else decide ((a:Int)<b))=_
 split
 ·rename_i h;rw[decide_eq_false (by lia)];rfl
 ·by_cases h:a<b
  ·rw[decide_eq_true h,decide_eq_true (by lia)]
  ·rw[decide_eq_false h,decide_eq_false (by lia)]
theorem oC (a b:List Nat):cI (a++b)=cI a++cI b:=by unfold cI;rw[n9]
noncomputable def CM (a b:List Nat):Prop:=HT.N0 (cI a) (cI b)=true
theorem iH {g:List Nat}:∀i,i<=g.length->(S0 g i).Pairwise CM
 | 0,_=>vN _ _
 | i+1,hi=>by
  rw[fB (by lia)]
  have ih:=iH (g:=g) i (by lia)
  have hl:∀r∈S0 g i,r.length=i:=fun r hr=>((hW i (by lia)).mp hr).1
  generalize S0 g i=rows at ih hl
  generalize g.getD i 0=o
  induction rows with
  | nil=>exact aw
  | cons r rows ihr =>
   show ((r::rows).flatMap fun r=>(D4 (o+1)).map fun k=>r++[k]).Pairwise CM
   rw[mF]
   rw[Dm] at ih
   refine List.pairwise_append.mpr ⟨?_,ihr ih.2 (fun r hr=>hl r (f7 _ hr)),fun a ha b hb=>?_⟩
   ·rw[bH]
    refine List.Pairwise.imp ?_ (List.pairwise_lt_range (n:=o+1))
    intro a b hab
    show HT.N0 (cI (r++[a])) (cI (r++[b]))=true
    rw[oC,oC,EF]
    show HT.N0 [(a:Int)] [(b:Int)]=true
    rw[EE];exact decide_eq_true hab
   ·obtain ⟨k,_,rfl⟩:=List.mem_map.mp ha
    obtain ⟨r',hr',k',_,rfl⟩:=qc.mp hb
    have hrr:=ih.1 r' hr'
    have ne:cI r≠cI r':=fun z=>by
     have h':HT.N0 (cI r) (cI r')=true:=hrr
     rw[z,iO] at h';cases h'
    show HT.N0 (cI (r++[k])) (cI (r'++[k']))=true
    rw[oC,oC,nY _ _ (by rw[W8,W8,hl r i4,hl r' (f7 _ hr')]) ne]
    exact hrr
theorem uH:∀{c:List Nat}{j:Nat},j<c.length->CM c (bf c j)
 | x::c,0,_=>by
  show (if (x:Int)=((x+1:Nat):Int) then HT.N0 (cI c) (cI c) else decide ((x:Int)<((x+1:Nat):Int)))=true
  rw[if_neg (by lia),decide_eq_true (by lia)]
 | x::c,j+1,h=>by
  have ih:=uH (c:=c) (j:=j) (by simpa using h)
  show (if (x:Int)=(x:Int) then HT.N0 (cI c) (cI (bf c j)) else decide ((x:Int)<(x:Int)))=true
  rw[if_pos rfl];exact ih
theorem JZ {j:Nat} (hi:(S0 g g.length).reverse[i]?=some c) (hj:j<g.length):bf c j∈(S0 g g.length).reverse.take i ↔ c.getD j 0<g.getD j 0:=by
 have hc:vH c g:=eV.mp (List.mem_reverse.mp (B0 hi))
 have hjc:j<c.length:=by rw[hc.len];exact hj
 constructor
 ·intro h
  have h1:vH (bf c j) g:=eV.mp (List.mem_reverse.mp (ae h))
  have:=h1.le j
  rw[km hjc,if_pos rfl] at this
  lia
 ·intro h
  have hm:bf c j∈(S0 g g.length).reverse:=List.mem_reverse.mpr (eV.mpr (hc.inc hjc h))
  obtain ⟨k,hk,e⟩:=List.mem_iff_getElem.mp hm
  have hil:=(List.getElem?_eq_some_iff.mp hi).1
  have hie:=(List.getElem?_eq_some_iff.mp hi).2
  have hr:=uH hjc
  have pr:(S0 g g.length).reverse.Pairwise fun a b=>CM b a:=List.pairwise_reverse.mpr (iH g.length (i9 _))
  have hki:k<i:=by
   rcases Nat.lt_trichotomy k i with z|z|z
   ·exact z
   ·subst z
    rw[hie] at e
    rw[<- e] at hr
    have h':HT.N0 (cI c) (cI c)=true:=hr
    rw[iO] at h';cases h'
   ·have:=List.pairwise_iff_getElem.mp pr i k hil hk z
    rw[e,hie] at this
    have h':=iM hr this
    rw[iO] at h';cases h'
  rw[<- e]
  exact List.mem_iff_getElem.mpr ⟨k,by rw[A4];lia,by rw[DT]⟩
noncomputable def yd (u:List Int) (rs:List (List Int)) (g:List Nat) (i:Nat):P2:=((S0 g g.length).reverse.take i).map fun c=>(cI c,due u rs g (cI c))
variable {u:List Int}{rs:List (List Int)}
theorem mK :cI c∈(yd u rs g i).map (·.1) ↔ c∈(S0 g g.length).reverse.take i:=by
 unfold yd
 rw[X2]
 constructor
 ·intro h
  obtain ⟨d,hd,e⟩:=List.mem_map.mp h
  rw[<- CI (show cI d=cI c from e)];exact hd
 ·intro h
  exact List.mem_map.mpr ⟨c,h,rfl⟩
theorem yc (h:c∈(S0 g g.length).reverse.take i):eO (yd u rs g i) (cI c)=due u rs g (cI c):=by
 unfold yd
 generalize (S0 g g.length).reverse.take i=R at h
 induction R with
 | nil=>cases h
 | cons d R ih =>
  rw[B9]
  unfold eO
  by_cases e:cI d=cI c
  ·rw[if_pos e]
   show due u rs g (cI d)=_
   rw[e]
  ·rw[if_neg e]
   rcases List.mem_cons.mp h with z|z
   ·rw[z] at e;exact absurd rfl e
   ·exact ih z
theorem Cb (hi:(S0 g g.length).reverse[i]?=some c):yd u rs g (i+1)=yd u rs g i++[(cI c,due u rs g (cI c))]:=by
 unfold yd
 rw[C2,hi,n9];rfl
theorem EH (hi:(S0 g g.length).reverse[i]?=some c):¬ cI c∈(yd u rs g i).map (·.1):=by
 rw[mK]
 intro h
 obtain ⟨k,hk,e⟩:=List.mem_iff_getElem.mp h
 rw[A4] at hk
 rw[DT] at e
 have hil:=(List.getElem?_eq_some_iff.mp hi).1
 have hie:=(List.getElem?_eq_some_iff.mp hi).2
 have pr:(S0 g g.length).reverse.Pairwise fun a b=>CM b a:=List.pairwise_reverse.mpr (iH g.length (i9 _))
 have:=List.pairwise_iff_getElem.mp pr k i (by lia) hil (by lia)
 rw[e,hie] at this
 have h':HT.N0 (cI c) (cI c)=true:=this
 rw[iO] at h';cases h'
theorem rP {H:Hp}{k:List Int}:∀{T:P2}{kvs:List (List V0 × V)},QE H T kvs->¬ k∈T.map (·.1)->jo kvs (Md.kI k)=none
 | [],[],_,_=>rfl
 | p::T,kv::kvs,⟨a,b,c⟩,h=>by
  obtain ⟨kk,x⟩:=kv
  have a:kk=Md.kI p.1:=a
  subst a
  rw[B9,C1,not_or] at h
  rw[eM (fun z=>h.1 (Md.jy z).symm)]
  exact rP c h.2
 | [],_::_,h',_=>h'.elim
 | _::_,[],h',_=>h'.elim
end Mq
namespace HT
open PySem PyProof.Rows
section
open PySem.SeqAt
open PySem.AutoSeq1 (wpAny_loadPart')
open PySem.MeetsSeq PySem.MeetsSeq2 PySem.MeetsSeq3
end
section
variable {prog:j9}{w:t9}{A:v7}{E:d6->d7->Prop}{s:d7}
end
end HT
namespace L2
open PySem PySem.Spec PyProof.Rows
section
variable {X:Cx}
end
section
variable {X:Cx}{K:m9}
noncomputable def rEqN (K:m9):R2:=fun x y H Q=>∃(a b:Addr) (ns ms:List Int),x=.ref a/\y=.ref b/\aQ K H a (ns.map V.int)/\aQ K H b (ms.map V.int)/\Q (.bl (decide (ns=ms))) H
theorem GW (hu:X.A.units+64<jk) (hK:X.K=K):gK X (P9 .Eq) (rEqN K):=by
 subst hK
 intro pins s σ H x y v u Q I rx ry h
 obtain ⟨a,b,ns,ms,rfl,rfl,ha,hb,q⟩:=h
 cases rx
 cases ry
 have rd:∀{c:Addr}{zs:List Int},aQ X.K H c (zs.map V.int)->∃as,Reads s.heap (.ref c) (DI zs) as:=fun {c zs} hc'=>by
  obtain ⟨its,r1,⟨o,ho,hc,n,hd⟩,_⟩:=I.tuple hc'
  obtain ⟨as,ra⟩:=P3.reads I.hok (oB zs) (P3.ints 0 H zs) r1
  exact ⟨as,.tuple ho hc hd (by simpa using ra)⟩
 obtain ⟨as,ra⟩:=rd ha
 obtain ⟨bs,rb⟩:=rd hb
 exact eq_dataH ra rb (jS ns) (jS ms) hu (K7 I (by rw[JV];exact q) rfl)
end
section
variable {X:Cx}
end
section
variable {prog:j9}{w:t9}{A:v7}{E:d6->d7->Prop}{s:d7}
end
section
variable {X:Cx}{pos:Pos}
end
section
variable {X:Cx}
end
end L2
namespace G
open PySem PySem.Spec PyProof.Rows L2 Mt Md Mq
structure bo (H:Hp) (L:List Pl) (rows:List (List Nat)):Prop where
 at':∀t∈L,H t.1=some (.tup (t.2.map V.int))
 eq:L.map (·.2)=rows.map cI
variable {H:Hp}{rows:List (List Nat)}
theorem bo.to {H':Hp}{L:List Pl}(h:bo H L rows) (k:∀a xs,H a=some (.tup xs)->H' a=some (.tup xs)):bo H' L rows:=⟨fun t ht=>k _ _ (h.at' t ht),h.eq⟩
theorem bo.len {L:List Pl}(h:bo H L rows):L.length=rows.length:=by have:=congrArg Ab h.eq;rwa [b9,b9] at this
theorem bo.get {L:List Pl}(h:bo H L rows) {i:Nat}{t:Pl} (ht:L[i]?=some t):∃r,rows[i]?=some r/\H t.1=some (.tup ((cI r).map V.int)):=by
 have e:(L.map (·.2))[i]?=(rows.map cI)[i]?:=by rw[h.eq]
 rw[n8,n8,ht] at e
 cases hr:rows[i]? with
 | none=>rw[hr] at e;cases e
 | some r =>
  rw[hr] at e
  injection e with e
  have h1:=h.at' t (B0 ht)
  have e':t.2=cI r:=e
  rw[e'] at h1
  exact ⟨r,rfl,h1⟩
theorem bo.app {L M:List Pl}{a b:List (List Nat)} (h:bo H L a) (k:bo H M b):bo H (L++M) (a++b):=
 ⟨fun t ht=>(List.mem_append.mp ht).elim (h.at' t) (k.at' t),by rw[n9,n9,h.eq,k.eq]⟩
theorem bo.rev {L:List Pl}{a:List (List Nat)} (h:bo H L a):bo H L.reverse a.reverse :=
 ⟨fun t ht=>h.at' t (List.mem_reverse.mp ht),by rw[cF,cF,h.eq]⟩
theorem Ci {c:List Nat}{t:Nat} (h:t<c.length):gC ((cI c).map V.int) none (some (t:Int))++[V.int ((cI c).getD t 0+1)]++gC ((cI c).map V.int) (some ((t:Int)+1)) none=(cI (bf c t)).map V.int:=by
 have hl:t<(cI c).length:=by rw[W8];exact h
 rw[oq (by rw[b9];lia),show ((t:Int)+1)=((t+1:Nat):Int) by lia,ou (by rw[b9];lia),<- lD,sy _ t hl,n9,n9,vw,vy];rfl
theorem Ib (p:Prop) [Decidable p]:(fr (if p then 1 else 0)).map V.int=[.int (if p then 1 else 0),.int 1]:=by
 by_cases h:p
 ·rw[if_pos h,if_pos h];rfl
 ·rw[if_neg h,if_neg h];rfl
section
variable {P:j9}{w:t9}{K:m9}{mg:Str->Option d6}{base:Heap}{f:Addr}{fd:C4}{ec:Nat->Addr}{Bs:Addr}
noncomputable def vY:Sp:=fun vs H Q _=>∃(st a c:Addr) (v:V) (n:Nat) (ns:List Int) (rs:List (List Int)) (g:List Nat),vs=[.ref a,v,.ref c]/\Ku st H n ns rs a v/\H c=some (.tup ((cI g).map V.int))/\g.length=n/\tot g<=20 /\
 ∀r H',j7 H H'->H' r=some (.tup ((fr (due ns rs g (cI (m6 n 0)))).map V.int))->Q (.ref r) H'
noncomputable abbrev Bb:Stmt:=eI 58
theorem bC:C3 ["_law_urn","_law_rule_here","_law_counts","_law_rows","_law_often","_law_longer","_law_row","_law_known","_law_found","_law_one","_law_kind","_law_there"] ["_law_urn","_law_rule_here","_law_counts"] (v9 Bb):=⟨rfl,rfl,rfl,by decide +kernel,rfl,by decide +kernel,by decide +kernel⟩
theorem HC (F:aY K "_law_due" "_law_due" Bb f fd) (B:Bt mg) (B3:Bt3 mg) (c1:S2 P w K mg base 1 "_law_behind" ["_law_urn","_law_rule_here","_law_counts"] wa) (c2:S2 P w K mg base 1 "_law_fraction" ["_law_top","_law_bottom"] nA) (c3:S2 P w K mg base 2 "_law_by" ["_law_one","_law_other"] eQ) (c4:S2 P w K mg base 2 "_law_plus" ["_law_one","_law_other"] iG):M0 P w K mg base cH 3 f fd ["_law_urn","_law_rule_here","_law_counts"] vY:=by
 refine F.ok bC (fun vs H Q E h=>?_) (fun cdv A outer s H vs Q E hr h=>?_)
 ·obtain ⟨st,a,c,v,n,ns,rs,g,rfl,_⟩:=h
  rfl
 obtain ⟨st,a,c,v,n,ns,rs,g,rfl,hA,hc,hg,g20,q⟩:=h
 refine ⟨_,(@n5 _ _ _ _ _ (@D6 _ _ 3 _ _ _ _ bC.nd rfl (B5 rfl) (@N1 _ _ _ _ (@b7 _ _ _ _ _ (@D0 _ _ _ _ _ d8) d8 (by rfl))) (by rfl) (by first|exact .inl rfl|exact .inr rfl))
  (@n5 _ _ _ _ _ (eh K1 rfl (jx (pv 2)) (U0 (i:=4) bC.nd rfl (B5 rfl))
  (@n5 _ _ _ _ _ (@D6 _ _ 5 _ _ _ _ bC.nd rfl (B5 rfl) (@N1 _ _ _ _ d8) (by rfl) (by first|exact .inl rfl|exact .inr rfl))
  (@n5 _ _ _ _ _ (eh K1 rfl (jV (pv 3)) (U0 (i:=6) bC.nd rfl (Z7 rfl))
  (@v5 _ _ _ (iJ (FD sW PySem.F.slot_list_extend PySem.F.type_list_extend zr (pv 5) (@b7 _ _ _ _ _ (J9 (N:=["_law_number","_law_row"]) (ix:=[none,some 6]) (ifs:=[]) (tc:=Q2) rfl (K3 rfl B.range (@b7 _ _ _ _ _ (@A7 _ _ _ _ _ _ _ _ P7 (pv 4) j8) d8 (by rfl)))
   (fun s H ex=>aE (i:=0) (by decide +kernel) rfl (B5 rfl) (.inr rfl)) (fun s H ex=>F9) (fun s H ex=>(@A7 _ _ _ _ _ _ _ _ cf (pv 1) (@D0 _ _ _ _ _ (@b7 _ _ _ _ _ (pv 0) d8 (by rfl))))) rfl (by decide +kernel) (by rfl) (by rfl) (fun _=>rfl)) d8 (by rfl))))))
  (@v5 _ _ _ (@D6 _ _ 3 _ _ _ _ bC.nd rfl (B5 rfl) (pv 5) (by rfl) (by first|exact .inl rfl|exact .inr rfl))))))
  (@n5 _ _ _ _ _ (@D6 _ _ 7 _ _ _ _ bC.nd rfl (B5 rfl) ug (by rfl) (by first|exact .inl rfl|exact .inr rfl))
  (@n5 _ _ _ _ _ (eh K1 rfl (jV (zj xb rfl B3.sorted boot_sorted (@b7 _ _ _ _ _ (pv 3) d8 (by rfl)) Y4)) (U0 (i:=6) bC.nd rfl (Z7 rfl))
  (@n5 _ _ _ _ _ (@D6 _ _ 8 _ _ _ _ bC.nd rfl (B5 rfl) (@D0 _ _ _ _ _ (@b7 _ _ _ _ _ (E6 cX rfl B.int jl (@b7 _ _ _ _ _ (cN (GW (K:=K) hr.units rfl) (pv 6) (pv 2) (M5 _)) d8 (by rfl))) (@b7 _ _ _ _ _ j8 d8 (by rfl)) (by rfl))) (by rfl) (by first|exact .inl rfl|exact .inr rfl))
  (@n5 _ _ _ _ _ (@D6 _ _ 9 _ _ _ _ bC.nd rfl (B5 rfl) (B8 (c1.up (by decide)) hr rfl (@b7 _ _ _ _ _ (pv 0) (@b7 _ _ _ _ _ (pv 1) (@b7 _ _ _ _ _ (pv 6) d8 (by rfl)) (by rfl)) (by rfl))) (by rfl) (by first|exact .inl rfl|exact .inr rfl))
  (@n5 _ _ _ _ _ (eh K1 rfl (K3 rfl B.range (@b7 _ _ _ _ _ (t7 B7 rfl B.len A5 (@b7 _ _ _ _ _ (pv 0) d8 (by rfl))) d8 (by rfl))) (U0 (i:=10) bC.nd rfl (B5 rfl))
  (@n5 _ _ _ _ _ (@D6 _ _ 11 _ _ _ _ bC.nd rfl (B5 rfl) (@A7 _ _ _ _ _ _ _ _ cf (@A7 _ _ _ _ _ _ _ _ cf (@G0 _ _ _ _ _ _ _ _ _ _ lN (pv 6) L6 (L5 (pv 10))) (@D0 _ _ _ _ _ (@b7 _ _ _ _ _ (@A7 _ _ _ _ _ _ _ _ P7 (@G1 _ _ _ _ _ _ _ N2 (pv 6) (pv 10) (fun _ _=>rfl)) j8) d8 (by rfl)))) (@G0 _ _ _ _ _ _ _ _ _ _ lN (pv 6) (L5 (@A7 _ _ _ _ _ _ _ _ P7 (pv 10) j8)) L6)) (by rfl) (by first|exact .inl rfl|exact .inr rfl))
  (@v5 _ _ _ (R0 (Bm (GV (lV hr) (pv 11) (pv 7))) (@v5 _ _ _ (@D6 _ _ 8 _ _ _ _ bC.nd rfl (B5 rfl) (B8 c4 hr rfl (@b7 _ _ _ _ _ (pv 8) (@b7 _ _ _ _ _ (B8 c3 hr rfl (@b7 _ _ _ _ _ (B8 (c2.up (by decide)) hr rfl (@b7 _ _ _ _ _ (@G1 _ _ _ _ _ _ _ N2 (pv 9) (pv 10) (fun _ _=>rfl)) (@b7 _ _ _ _ _ (t7 (aP rfl) rfl B.sum qW (@b7 _ _ _ _ _ (pv 9) d8 (by rfl))) d8 (by rfl)) (by rfl))) (@b7 _ _ _ _ _ (sd (lV hr) (pv 7) (pv 11) (fun _ _=>rfl)) d8 (by rfl)) (by rfl))) d8 (by rfl)) (by rfl))) (by rfl) (by first|exact .inl rfl|exact .inr rfl))) F6))))
  (@v5 _ _ _ (xM (lV hr) (pv 7) (pv 6) (pv 8) rfl))))))
  (@v5 _ _ _ (C7 (sd (lV hr) (pv 7) (@A7 _ _ _ _ _ _ _ _ Ee (@D0 _ _ _ _ _ (@b7 _ _ _ _ _ j8 d8 (by rfl))) (t7 B7 rfl B.len A5 (@b7 _ _ _ _ _ (pv 0) d8 (by rfl)))) (fun _ _=>rfl)))))))),?_⟩
 obtain ⟨a',e,_,ha⟩:=hA.u.di
 cases e
 have hU:=hA.uu
 have hR:=hA.ru
 have n1:=hA.n1
 have n4:=hA.n4
 have hul:=hU.len
 have nls:∀xs ys,HO.lst xs≠.tup ys:=fun _ _ z=>by cases z
 have ndt:∀(ps:List (List V0 × V)) xs,HO.dT ps≠.tup xs:=fun _ _ z=>by cases z
 refine ⟨(by show 0<=i7;decide),fun p0 hp0=>⟨(by show 1<=i7;decide),fun pr hpr=>?_⟩⟩
 have g1:j7 H (t6 H p0 (.tup [])):=j7.new hp0
 have h1:t6 H p0 (.tup []) p0=some (.tup []):=f6
 try dsimp -proj only
 generalize t6 H p0 (.tup [])=H1 at g1 h1 hpr
 have g2:j7 H1 (t6 H1 pr (.lst [.ref p0])):=j7.new hpr
 have h2:t6 H1 pr (.lst [.ref p0]) pr=some (.lst [.ref p0]):=f6
 try dsimp -proj only[N7]
 generalize t6 H1 pr (.lst [.ref p0])=H2 at g2 h2
 have g12:=g1.trans g2
 refine ⟨_,rfl,c,rfl,⟨_,.of (g12 _ _ hc)⟩,?_⟩
 have cl:((cI g).map V.int).length=n:=by rw[b9,W8,hg]
 refine yl (K:=K) (a:=c) (xs:=(cI g).map V.int) (fun i σ H3=>j7 H H3/\i<=n/\∃pr L o4 o5 o6,H3 pr=some (.lst (L.map fun t:Pl=>V.ref t.1))/\bo H3 L (S0 g i)/\σ=[some (.ref a),some v,some (.ref c),some (.ref pr),o4,o5,o6,none,none,none,none,none])
  ⟨g12,u9 _,pr,[(p0,[])],none,none,none,h2,⟨fun t ht=>by rw[List.mem_singleton.mp ht];exact g2 _ _ h1,rfl⟩,rfl⟩ (fun i σ H3 _ h=>.of (h.1 _ _ hc)) (fun i x σ H3 hx h=>?_) (fun σ H3 h=>?_)
 ·obtain ⟨g3,hin,pr,L,o4,o5,o6,hpr3,hL,rfl⟩:=h
  have hi:i<n:=by rw[<- cl];exact (List.getElem?_eq_some_iff.mp hx).1
  have ex:x=.int ((g.getD i 0:Nat):Int):=by
   have:(cI g)[i]?=some ((g.getD i 0:Nat):Int):=by
    unfold cI
    rw[n8,d9 (by lia),j6,d9 (by lia)];rfl
   rw[n8,this] at hx
   injection hx with hx
   exact hx.symm
  subst ex
  have go20:g.getD i 0<=20:=m8 (rn g i) g20
  have rl:=nM g20 i (by lia)
  have rl4:(S0 g i).length<=9261:=m8 rl (m8 (w5 (by decide) (show i<=3 by lia)) (by decide))
  refine ⟨(by show 0<=i7;decide),fun lg hlg=>?_⟩
  have g4:j7 H3 (t6 H3 lg (.lst [])):=j7.new hlg
  have h4:t6 H3 lg (.lst []) lg=some (.lst []):=f6
  have hHl:H lg=none:=g3.free hlg
  try dsimp -proj only[N7]
  generalize t6 H3 lg (.lst [])=H4 at g4 h4
  have hpr4:=g4 _ _ hpr3
  have npr:pr≠lg:=v8 hpr3 hlg
  have hL4:=hL.to (H':=H4) fun a xs e=>g4 _ _ e
  refine ⟨_,rfl,pr,rfl,⟨_,.of hpr4⟩,?_⟩
  have Ll:=hL.len
  refine oj (K:=K) (a:=pr) (xs:=L.map fun t:Pl=>V.ref t.1) (fun j σ H5=>Kp lg H4 H5/\j<=L.length/\(∃M,H5 lg=some (.lst (M.map fun t:Pl=>V.ref t.1))/\bo H5 M (gT ((S0 g i).take j) (g.getD i 0)))/\∃o6,σ=[some (.ref a),some v,some (.ref c),some (.ref pr),some (.int ((g.getD i 0:Nat):Int)),some (.ref lg),o6,none,none,none,none,none])
   ⟨Kp.refl _ _,u9 _,⟨[],h4,⟨fun t ht=>absurd ht (by simp),rfl⟩⟩,_,rfl⟩ (fun j σ H5 _ h=>.of (h.1 _ _ npr hpr4)) (fun j x σ H5 hx h=>?_) (fun σ H5 h=>?_)
  ·obtain ⟨k5,hj,⟨M,hM5,hM⟩,o6,rfl⟩:=h
   rw[n8] at hx
   obtain ⟨t,ht,et⟩:=Option.map_eq_some_iff.mp hx
   subst et
   have hjl:=(List.getElem?_eq_some_iff.mp ht).1
   have t45:=dq h4 (nls _) k5
   obtain ⟨r,hr1,hr2⟩:=(hL4.to t45).get ht
   have hrl:r.length=i:=((hW i (by lia)).mp (B0 hr1)).1
   have ests:gT ((S0 g i).take (j+1)) (g.getD i 0)=gT ((S0 g i).take j) (g.getD i 0)++(D4 (g.getD i 0+1)).map fun k=>r++[k]:=by
    rw[C2,hr1]
    unfold gT
    rw[Aw]
    show _++([r].flatMap fun r=>(D4 (g.getD i 0+1)).map fun k=>r++[k])=_
    rw[mF,List.flatMap_nil,T8]
   have Ml:M.length=((S0 g i).take j).length*(g.getD i 0+1):=by rw[hM.len,kT]
   have Ml2:M.length<=200000:=by
    rw[Ml]
    refine m8 (D5 (show _<=9261 by rw[A4];lia) (show _<=21 by lia)) (by decide)
   try dsimp -proj only[N7]
   refine ⟨_,rfl,.inl ⟨rfl,_,.of hM5⟩,_,rfl,_,_,rfl,rfl,((g.getD i 0+1:Nat):Int),rfl,by lia,by lia,?_⟩
   refine O4 (lo:=0) (n:=g.getD i 0+1) (sz (by lia)) (fun k ys H6=>j7 H5 H6/\k<=g.getD i 0+1/\∃N:List Pl,ys=N.map (fun t=>V.ref t.1)/\bo H6 N ((D4 k).map fun k=>r++[k])) ⟨j7.refl _,u9 _,[],rfl,⟨fun t ht=>absurd ht (by simp),rfl⟩⟩ (fun k ys H6 h=>?_) rfl (fun k ys H6 hk h=>?_) (fun ys H6 h=>?_)
   ·obtain ⟨_,_,N,rfl,hN⟩:=h
    rw[b9,hN.len,b9,Q7]
   ·obtain ⟨g6,_,N,rfl,hN⟩:=h
    have e0:(0:Int)+(k:Int)=(k:Int):=by lia
    rw[e0]
    refine ⟨_,rfl,_,rfl,(by show 1<=i7;decide),fun p hp=>?_⟩
    have g7:j7 H6 (t6 H6 p (.tup [.int (k:Int)])):=j7.new hp
    have h7:t6 H6 p (.tup [.int (k:Int)]) p=some (.tup [.int (k:Int)]):=f6
    try dsimp only
    generalize t6 H6 p (.tup [.int (k:Int)])=H7 at g7 h7
    refine ⟨t.1,p,_,_,rfl,rfl,g7 _ _ (g6 _ _ hr2),h7,by rw[b9,W8,hrl];simp only[r6,T7];lia,fun p3 H8 g8 hp3=>?_⟩
    refine ⟨(g6.trans g7).trans g8,by lia,N++[(p3,cI (r++[k]))],by rw[n9];rfl,?_⟩
    rw[iW,n9]
    refine (hN.to fun a xs e=>g8 _ _ (g7 _ _ e)).app ⟨fun t ht=>?_,rfl⟩
    rw[List.mem_singleton.mp ht]
    show H8 p3=some (.tup ((cI (r++[k])).map V.int))
    rw[hp3,oC,n9];rfl
   ·obtain ⟨g6,_,N,rfl,hN⟩:=h
    intro p hp
    have g7:j7 H6 (t6 H6 p (.lst (N.map fun t=>V.ref t.1))):=j7.new hp
    have h7:t6 H6 p (.lst (N.map fun t=>V.ref t.1)) p=some (.lst (N.map fun t=>V.ref t.1)):=f6
    try dsimp -proj only
    generalize t6 H6 p (.lst (N.map fun t=>V.ref t.1))=H7 at g7 h7
    have hM7:=g7 _ _ (g6 _ _ hM5)
    have Nl:N.length=g.getD i 0+1:=by rw[hN.len,b9,Q7]
    refine ⟨lg,p,_,_,rfl,rfl,hM7,h7,by rw[b9,b9,S6];lia,?_⟩
    have kB:Kp lg H7 (t6 H7 lg (.lst ((M.map fun t=>V.ref t.1)++N.map fun t=>V.ref t.1))):=Kp.at
    have tB:=dq hM7 (nls _) kB
    refine ⟨(k5.trans ((g6.trans g7).kp lg)).trans kB,by lia,⟨M++N,by rw[f6,n9],?_⟩,_,rfl⟩
    rw[ests]
    exact (hM.to fun a xs e=>tB _ _ (g7 _ _ (g6 _ _ e))).app (hN.to fun a xs e=>tB _ _ (g7 _ _ e))
  ·obtain ⟨k5,_,⟨M,hM5,hM⟩,o6,rfl⟩:=h
   rw[b9,Ll,D8] at hM
   refine ⟨_,rfl,fun b o e=>k5 _ _ (fun z=>by rw[z,hHl] at e;cases e) (g4 _ _ (g3 _ _ e)),by lia,lg,M,_,_,_,hM5,?_,rfl⟩
   rw[fB (by lia)]
   exact hM
 ·obtain ⟨g3,_,pr,L,o4,o5,o6,hpr3,hL,rfl⟩:=h
  rw[cl,<- hg] at hL
  have hL0:=hL
  intro kn hkn
  have g4:j7 H3 (t6 H3 kn (.dT [])):=j7.new hkn
  have h4:t6 H3 kn (.dT []) kn=some (.dT []):=f6
  have hHk:H kn=none:=g3.free hkn
  try dsimp -proj only[N7]
  generalize t6 H3 kn (.dT [])=H4 at g4 h4
  have rl4:(S0 g g.length).length<=200000:=m8 (nM g20 g.length (i9 _)) (m8 (w5 (by decide) (show g.length<=4 by lia)) (by decide))
  have Ll:=hL.len
  have hL4:=hL.to (H':=H4) fun a xs e=>g4 _ _ e
  refine ⟨_,rfl,pr,L,rfl,rfl,.of (g4 _ _ hpr3),by lia,fun t ht=>⟨hL4.at' t ht,?_⟩,?_,fun D H5 g5 hDn hD=>?_⟩
  ·intro z
   obtain ⟨j,hj⟩:=List.mem_iff_getElem?.mp ht
   obtain ⟨r,hr1,hr2⟩:=hL4.get hj
   have hrl:r.length=n:=by rw[(eV.mp (B0 hr1)).len];exact hg
   rw[hL4.at' t ht,z] at hr2
   injection hr2 with hr2
   injection hr2 with hr2
   have:=congrArg Ab hr2
   rw[b9,b9,W8,hrl] at this
   simp at this
   lia
  ·have rr:=iH (g:=g) g.length (i9 _)
   have:(L.map (·.2)).Pairwise fun a b=>HT.N0 a b=true:=by
    rw[hL.eq,bH];exact rr
   rwa [bH] at this
  have hkn5:=g5 _ _ h4
  have nD:D≠kn:=fun z=>by rw[z,h4] at hDn;cases hDn
  have gH5:j7 H H5:=(g3.trans g4).trans g5
  have hLr:bo H5 L.reverse (S0 g g.length).reverse:=(hL4.rev).to fun a xs e=>g5 _ _ e
  have Rl:L.reverse.length=(S0 g g.length).reverse.length:=hLr.len
  refine ⟨D,rfl,⟨_,.of hD⟩,?_⟩
  refine oj (K:=K) (a:=D) (xs:=L.reverse.map fun t:Pl=>V.ref t.1) (fun i σ H6=>Kp kn H5 H6/\i<=L.reverse.length/\(∃kvs,H6 kn=some (.dT kvs)/\QE H6 (yd ns rs g i) kvs)/\∃o6 o8 o9 oa ob,σ=[some (.ref a),some v,some (.ref c),some (.ref pr),o4,o5,o6,some (.ref kn),o8,o9,oa,ob])
   ⟨Kp.refl _ _,u9 _,⟨[],hkn5,trivial⟩,_,_,_,_,_,rfl⟩ (fun i σ H6 _ h=>.of (h.1 _ _ nD hD)) (fun i x σ H6 hx h=>?_) (fun σ H6 h=>?_)
  ·obtain ⟨k6,hil,⟨kvs,hk6,hq6⟩,o6,o8,o9,oa,ob,rfl⟩:=h
   rw[n8] at hx
   obtain ⟨t,ht,et⟩:=Option.map_eq_some_iff.mp hx
   subst et
   have hil2:=(List.getElem?_eq_some_iff.mp ht).1
   have t56:=dq hkn5 (ndt _) k6
   obtain ⟨cr,hr1,hr2⟩:=(hLr.to t56).get ht
   have hLe:vH cr g:=eV.mp (List.mem_reverse.mp (B0 hr1))
   have crl:cr.length=n:=by rw[hLe.len];exact hg
   have gH6:j7 H H6:=fun b o e=>k6 _ _ (fun z=>by rw[z,hHk] at e;cases e) (gH5 _ _ e)
   have RO:=rN hR n1 n4 hU hg g20 hLe
   obtain ⟨bd1,bd2,bd3,bd4⟩:=yo hR n1 n4 hU hg g20 hLe
   have hUr:=RO.cn.urn
   have hs0:=hUr.pos
   have tg:=jO hLe
   have hs1:(N8 ns rs (cI cr)).sum<=4096:=by
    have:=Mt.sum_le (m:=((20+5*tot cr:Nat):Int)) (fun y hy=>(hUr.nn y hy).2)
    rw[hUr.len] at this
    have h4:((20+5*tot cr:Nat):Int)*(n:Int)<=((20+5*tot cr:Nat):Int)*4:=cZ (by lia) (by lia)
    generalize ((20+5*tot cr:Nat):Int)*(n:Int)=z at this h4
    lia
   have hc6:=gH6 _ _ hc
   try dsimp -proj only[N7]
   refine ⟨_,rfl,_,rfl,t.1,c,cI cr,cI g,rfl,rfl,.of hr2,.of hc6,.inr ⟨_,rfl,(by show 2<=i7;decide),fun p8 hp8=>?_⟩⟩
   have g7:j7 H6 (t6 H6 p8 (.tup [.int (if decide (cI cr=cI g)=true then 1 else 0),.int 1])):=j7.new hp8
   have h7:t6 H6 p8 (.tup [.int (if decide (cI cr=cI g)=true then 1 else 0),.int 1]) p8=some (.tup ((fr (pf ns rs g cr 0)).map V.int)):=by
    rw[f6,xN,Ib]
    by_cases e:cr=g
    ·rw[if_pos e,if_pos (decide_eq_true (by rw[e]))]
    ·rw[if_neg e,if_neg (by simp;exact fun z=>e (CI z))]
   try dsimp -proj only[N7]
   generalize t6 H6 p8 (.tup [.int (if decide (cI cr=cI g)=true then 1 else 0),.int 1])=H7 at g7 h7
   have gH7:=gH6.trans g7
   refine ⟨_,rfl,_,rfl,_,rfl,a,t.1,st,v,n,ns,cI cr,rs,rfl,gH7 _ _ ha,hul,hA.r.kp (gH7.kp st),hR,n4,by rw[W8];exact crl,.inl (g7 _ _ hr2),fun x hx=>?_,fun pn H8 g8 hpn=>?_⟩
   ·have:=RO.cn.nn x hx
    lia
   have gH8:=gH7.trans g8
   have g68:=g7.trans g8
   refine ⟨_,rfl,a,_,rfl,.inr (.of (gH8 _ _ ha)),(n:Int),by rw[b9,hul],by lia,by lia,?_⟩
   have hr8:=g68 _ _ hr2
   have hk8:=g68 _ _ hk6
   have hq8:QE H8 (yd ns rs g i) kvs:=hq6.mono fun a xs e=>g68 _ _ e
   refine iP (lo:=0) (n:=n) (fun j σ H9=>j7 H8 H9/\j<=n/\∃p8 oa ob,H9 p8=some (.tup ((fr (pf ns rs g cr j)).map V.int))/\σ=[some (.ref a),some v,some (.ref c),some (.ref pr),o4,o5,some (.ref t.1),some (.ref kn),some (.ref p8),some (.ref pn),oa,ob])
    ⟨j7.refl _,u9 _,p8,_,_,g8 _ _ h7,rfl⟩ (fun j σ H9 hj h=>?_) (fun σ H9 h=>?_)
   ·obtain ⟨g9,_,p8,oa,ob,h9,rfl⟩:=h
    have e0:(0:Int)+(j:Int)=(j:Int):=by lia
    rw[e0]
    have hka:=g9 _ _ hr8
    have hjc:j<cr.length:=by lia
    have l1:((cI cr).map V.int).length=n:=by rw[b9,W8,crl]
    try dsimp -proj only[N7]
    refine ⟨_,rfl,_,rfl,(j:Int),rfl,t.1,_,rfl,hka,fun p1 Ha ga hp1=>?_⟩
    refine ⟨_,rfl,_,rfl,t.1,_,_,_,rfl,rfl,.of (ga _ _ hka),bO (by rw[W8];exact hjc),_,_,rfl,rfl,(by show 1<=i7;decide),fun p2 hp2=>?_⟩
    have gb:j7 Ha (t6 Ha p2 (.tup [.int ((cI cr).getD j 0+1)])):=j7.new hp2
    have hp2b:t6 Ha p2 (.tup [.int ((cI cr).getD j 0+1)]) p2=some (.tup [.int ((cI cr).getD j 0+1)]):=f6
    try dsimp -proj only
    generalize t6 Ha p2 (.tup [.int ((cI cr).getD j 0+1)])=Hb at gb hp2b
    refine ⟨p1,p2,_,_,rfl,rfl,gb _ _ hp1,hp2b,?_,fun p3 Hc gc hp3=>?_⟩
    ·have:=U9 ((cI cr).map V.int) none (some (j:Int))
     rw[l1] at this
     simp only[r6,T7];lia
    refine ⟨_,rfl,_,rfl,_,_,rfl,rfl,((j:Int)+1),rfl,t.1,_,rfl,(gb.trans gc) _ _ (ga _ _ hka),fun p4 Hd gd hp4'=>?_⟩
    refine ⟨p3,p4,_,_,rfl,rfl,gd _ _ hp3,hp4',?_,fun p5 He ge hp5=>?_⟩
    ·have h1:=U9 ((cI cr).map V.int) none (some (j:Int))
     have h2:=U9 ((cI cr).map V.int) (some ((j:Int)+1)) none
     rw[l1] at h1 h2
     rw[t8]
     simp only[r6,T7];lia
    rw[Ci hjc] at hp5
    have g9e:j7 H9 He:=(((ga.trans gb).trans gc).trans gd).trans ge
    have g8e:=g9.trans g9e
    have hke:=g8e _ _ hk8
    have hqe:QE He (yd ns rs g i) kvs:=hq8.mono fun a xs e=>g8e _ _ e
    have hp5':He p5=some (.tup ((Md.kI (cI (bf cr j))).map kV)):=by rw[qw];exact hp5
    try dsimp -proj only[N7]
    refine ⟨_,rfl,_,rfl,kn,_,rfl,jC.t hke hp5',?_⟩
    refine ⟨_,rfl,?_⟩
    have hah:=JZ hr1 (show j<g.length by lia)
    have hpne:=g9e _ _ (g9 _ _ hpn)
    have h8e:=g9e _ _ h9
    by_cases hl:cr.getD j 0<g.getD j 0
    ·have hin:=hah.mpr hl
     obtain ⟨x,hx1,rr,rfl,hrr⟩:=rQ hqe (mK.mpr hin)
     rw[yc hin] at hrr
     have hLi:=hLe.inc hjc hl
     obtain ⟨_,_,bi3,bi4⟩:=yo hR n1 n4 hU hg g20 hLi
     obtain ⟨bp1,bp2⟩:=bd1 j hj hl
     obtain ⟨bf1,bf2⟩:=bd2 j (by lia)
     have b0:=(hUr.getD j).1
     have b1:=aB hUr j
     have cnn:0<=(cut ((N8 ns rs (cI cr)).getD j 0) (N8 ns rs (cI cr)).sum).num:=CB b0 hs0
     have cb:Bd 12 (cut ((N8 ns rs (cI cr)).getD j 0) (N8 ns rs (cI cr)).sum):=Bd.cut hs0 (by show _<=4096;lia) (by show _<=4096;lia)
     rw[hx1]
     refine P8 ?_
     refine ⟨_,rfl,_,rfl,_,rfl,pn,_,_,_,rfl,rfl,.of hpne,bO (by rw[hUr.len];exact hj),_,rfl,pn,N8 ns rs (cI cr),rfl,.inr (.of hpne),_,_,rfl,b0,hs0,m8 (show _<=2 ^ 12 by show _<=4096;lia) (w5 (by decide) (by decide)),m8 (show _<=2 ^ 12 by show _<=4096;lia) (w5 (by decide) (by decide)),fun pc Hf gf hpc=>?_⟩
     have hdg:jC Hf kn (.ref p5) (some (.ref rr)):=by
      have:=jC.t (H:=Hf) (gf _ _ hke) (gf _ _ hp5')
      rw[hx1] at this
      exact this
     refine ⟨_,rfl,_,rfl,kn,_,rfl,hdg,pc,rr,_,_,12,5700,rfl,hpc,gf _ _ hrr,cnn,Rat.num_nonneg.mpr bi3,cb,bi4,by decide,fun pm Hg gg hpm=>?_⟩
     refine ⟨p8,pm,_,_,5700,5700,rfl,(gf.trans gg) _ _ h8e,hpm,Rat.num_nonneg.mpr bf1,Rat.num_nonneg.mpr bp1,bf2,bp2,by decide,fun pz Hh gh hpz=>?_⟩
     refine ⟨g8e.trans ((gf.trans gg).trans gh),by lia,pz,_,_,?_,rfl⟩
     rw[Bv hl]
     exact hpz
    ·rw[rP hqe (fun z=>hl (hah.mp (mK.mp z)))]
     refine Q3 ⟨g8e,by lia,p8,_,_,?_,rfl⟩
     rw[FC hl]
     exact h8e
   ·obtain ⟨g9,_,p8,oa,ob,h9,rfl⟩:=h
    have hk9:=g9 _ _ hk8
    have hq9:QE H9 (yd ns rs g i) kvs:=hq8.mono fun a xs e=>g9 _ _ e
    have hr9:H9 t.1=some (.tup ((Md.kI (cI cr)).map kV)):=by rw[qw];exact g9 _ _ hr8
    rw[rY hul hg hLe] at h9
    have kl:kvs.length<=200000:=by
     rw[hq6.len]
     unfold yd
     rw[b9,A4,J6];lia
    refine ⟨_,rfl,_,rfl,_,rfl,kn,_,rfl,zW.t hk9 hr9 (by rw[S6];lia),?_⟩
    have hnew:=EH (u:=ns) (rs:=rs) hr1
    have ep:=Bl (V.ref p8) (rP hq9 hnew)
    refine ⟨(k6.trans ((g68.trans g9).kp kn)).trans Kp.at,by lia,⟨_,f6,?_⟩,_,_,_,_,_,rfl⟩
    rw[ep,Cb hr1]
    exact QE.snoc ⟨p8,rfl,dq hk9 (ndt _) Kp.at _ _ h9⟩ (hq9.mono (dq hk9 (ndt _) Kp.at))
  ·obtain ⟨k6,hil,⟨kvs,hk6,hq6⟩,o6,o8,o9,oa,ob,rfl⟩:=h
   have gH6:j7 H H6:=fun b o e=>k6 _ _ (fun z=>by rw[z,hHk] at e;cases e) (gH5 _ _ e)
   refine ⟨_,rfl,(by show 1<=i7;decide),fun z0 hz0=>?_⟩
   have g7:j7 H6 (t6 H6 z0 (.tup [.int 0])):=j7.new hz0
   have h7:t6 H6 z0 (.tup [.int 0]) z0=some (.tup [.int 0]):=f6
   try dsimp -proj only
   generalize t6 H6 z0 (.tup [.int 0])=H7 at g7 h7
   have gH7:=gH6.trans g7
   refine ⟨_,rfl,a,_,rfl,.inr (.of (gH7 _ _ ha)),z0,.int 0,n,rfl,(by rw[b9,hul]),h7,n1,n4,fun b H8 g8 hb=>?_⟩
   have g68:=g7.trans g8
   have hq8:QE H8 (yd ns rs g (L.reverse.map fun t:Pl=>V.ref t.1).length) kvs:=hq6.mono fun a xs e=>g68 _ _ e
   have hb8:H8 b=some (.tup ((Md.kI (cI (m6 n 0))).map kV)):=by
    rw[qw]
    unfold cI
    rw[X1,X1];exact hb
   have hz:m6 n 0∈(S0 g g.length).reverse.take (L.reverse.map fun t:Pl=>V.ref t.1).length:=by
    rw[b9,Rl,D8]
    refine List.mem_reverse.mpr (eV.mpr ⟨by rw[J7];exact hg.symm,fun j=>?_⟩)
    rw[j6]
    by_cases hj:j<n
    ·rw[gI,if_pos hj];exact u9 _
    ·rw[gI,if_neg hj];exact u9 _
   obtain ⟨x,hx1,rr,rfl,hrr⟩:=rQ hq8 (mK.mpr hz)
   rw[yc hz] at hrr
   refine ⟨kn,_,rfl,?_,q rr H8 (gH6.trans g68) hrr⟩
   have:=jC.t (H:=H8) (g68 _ _ hk6) hb8
   rw[hx1] at this
   exact this
end
end G
namespace G
open PySem PySem.Spec PyProof.Rows L2 Mt
section
variable {P:j9}{w:t9}{K:m9}{mg:Str->Option d6}{base:Heap}{f:Addr}{fd:C4}{ec:Nat->Addr}{Bs:Addr}
noncomputable def vU:Sp:=fun vs H Q _=>∃(l:Addr) (x:Int) (b:Bool),vs=[.ref l]/\H l=some (.lst [.int x,.bl b])/\lF x b/\∀(v:V) (H':Hp),Y0 l b H H'->Tg l H' v->Q v H'
noncomputable abbrev AX:Stmt:=eI 53
theorem AU:C3 ["_law_state_here","_law_some"] ["_law_state_here"] (v9 AX):=⟨rfl,rfl,rfl,by decide +kernel,rfl,by decide +kernel,by decide +kernel⟩
theorem GZ (F:aY K "_law_odd" "_law_odd" AX f fd) (c1:S2 P w K mg base 1 "_law_take" ["_law_state_here","_law_many"] aM):M0 P w K mg base cH 2 f fd ["_law_state_here"] vU:=by
 refine F.ok AU (fun vs H Q E h=>?_) (fun cdv A outer s H vs Q E hr h=>?_)
 ·obtain ⟨l,x,b,rfl,_⟩:=h
  rfl
 obtain ⟨l,x,b,rfl,hl,hst,q⟩:=h
 refine ⟨_,@n5 _ _ _ _ _ (@D6 _ _ 1 _ _ _ _ AU.nd rfl (B5 rfl) (@N1 _ _ _ _ (@nU _ _ _ _ 8 rfl (@nS _ _ _ _ _ _ _ (@D0 _ _ _ _ _ d8) (@JG _ _ _ _ _ _ (@N1 _ _ _ _ d8) (@nS _ _ _ _ _ _ _ (@D0 _ _ _ _ _ (@ja _ _ _ _ _ _ _ Y4 d8)) (@JG _ _ _ _ _ _ (@N1 _ _ _ _ (@ja _ _ _ _ _ _ _ j8 d8)) (@pa_d _ _ _ _ _ _ _ JE (@nS _ _ _ _ _ _ _ (@D0 _ _ _ _ _ (@ja _ _ _ _ _ _ _ fI d8)) (@nS _ _ _ _ _ _ _ (@D0 _ _ _ _ _ (@nS _ _ _ _ _ _ _ (@D0 _ _ _ _ _ (@ja _ _ _ _ _ _ _ j8 d8)) d8)) (@pa_b _ _ _ _ _ _ _ _ (@A7 _ _ _ _ _ _ _ _ lp j8 j8) (@nS _ _ _ _ _ _ _ (@D0 _ _ _ _ _ (@ja _ _ _ _ _ _ _ j8 d8)) (@nS _ _ _ _ _ _ _ (@D0 _ _ _ _ _ (@ja _ _ _ _ _ _ _ j8 d8)) d8)))))))))))) rfl (.inl rfl))
  (v5 (C7 (G1 O7 (A7 lr (pv 1) (@N1 _ _ _ _ (@nS _ _ _ _ _ _ _ (@D0 _ _ _ _ _ (@ja _ _ _ _ _ _ _ j8 (@ja _ _ _ _ _ _ _ j8 (@ja _ _ _ _ _ _ _ j8 (@ja _ _ _ _ _ _ _ j8 (@ja _ _ _ _ _ _ _ j8 d8)))))) (@nS _ _ _ _ _ _ _ (@D0 _ _ _ _ _ (@nS _ _ _ _ _ _ _ (@D0 _ _ _ _ _ (@ja _ _ _ _ _ _ _ j8 (@ja _ _ _ _ _ _ _ j8 d8))) (@nS _ _ _ _ _ _ _ (@D0 _ _ _ _ _ (@ja _ _ _ _ _ _ _ j8 (@ja _ _ _ _ _ _ _ j8 d8))) d8))) d8)))) (B8 c1 hr rfl (b7 (pv 0) (b7 j8 d8))) (fun _ _=>rfl)))),?_⟩
 have sH:Y0 l b H H:=Y0.start hl hst
 refine ⟨(by show 0<=i7;decide),fun a0 hna0=>?_⟩
 have ga0:j7 H (t6 H a0 (.tup [])):=j7.new hna0
 have ha0:t6 H a0 (.tup []) a0=some (.tup []):=f6
 have na0:a0≠l:=(sH.ne hna0).symm
 have sJa0:=sH.same ga0
 try dsimp only
 generalize t6 H a0 (.tup [])=Ja0 at ga0 ha0 sJa0
 refine ⟨(by show 0<=i7;decide),fun a1 hna1=>?_⟩
 have ga1:j7 Ja0 (t6 Ja0 a1 (.lst [])):=j7.new hna1
 have ha1:t6 Ja0 a1 (.lst []) a1=some (.lst []):=f6
 have na1:a1≠l:=(sJa0.ne hna1).symm
 have sJa1:=sJa0.same ga1
 try dsimp only
 generalize t6 Ja0 a1 (.lst [])=Ja1 at ga1 ha1 sJa1
 refine ⟨(by show 1<=i7;decide),fun a2 hna2=>?_⟩
 have ga2:j7 Ja1 (t6 Ja1 a2 (.tup [.bl true])):=j7.new hna2
 have ha2:t6 Ja1 a2 (.tup [.bl true]) a2=some (.tup [.bl true]):=f6
 have na2:a2≠l:=(sJa1.ne hna2).symm
 have sJa2:=sJa1.same ga2
 try dsimp only
 generalize t6 Ja1 a2 (.tup [.bl true])=Ja2 at ga2 ha2 sJa2
 refine ⟨(by show 1<=i7;decide),fun a3 hna3=>?_⟩
 have ga3:j7 Ja2 (t6 Ja2 a3 (.lst [.int 1])):=j7.new hna3
 have ha3:t6 Ja2 a3 (.lst [.int 1]) a3=some (.lst [.int 1]):=f6
 have na3:a3≠l:=(sJa2.ne hna3).symm
 have sJa3:=sJa2.same ga3
 try dsimp only
 generalize t6 Ja2 a3 (.lst [.int 1])=Ja3 at ga3 ha3 sJa3
 intro a4 hna4
 have ga4:j7 Ja3 (t6 Ja3 a4 (.dK [(U2 0,.int 1)])):=j7.new hna4
 have ha4:t6 Ja3 a4 (.dK [(U2 0,.int 1)]) a4=some (.dK [(U2 0,.int 1)]):=f6
 have na4:a4≠l:=(sJa3.ne hna4).symm
 have sJa4:=sJa3.same ga4
 try dsimp only
 generalize t6 Ja3 a4 (.dK [(U2 0,.int 1)])=Ja4 at ga4 ha4 sJa4
 refine ⟨(by show 1<=i7;decide),fun a5 hna5=>?_⟩
 have ga5:j7 Ja4 (t6 Ja4 a5 (.tup [.non])):=j7.new hna5
 have ha5:t6 Ja4 a5 (.tup [.non]) a5=some (.tup [.non]):=f6
 have na5:a5≠l:=(sJa4.ne hna5).symm
 have sJa5:=sJa4.same ga5
 try dsimp only
 generalize t6 Ja4 a5 (.tup [.non])=Ja5 at ga5 ha5 sJa5
 refine ⟨(by show 1<=i7;decide),fun a6 hna6=>?_⟩
 have ga6:j7 Ja5 (t6 Ja5 a6 (.tup [.int 1])):=j7.new hna6
 have ha6:t6 Ja5 a6 (.tup [.int 1]) a6=some (.tup [.int 1]):=f6
 have na6:a6≠l:=(sJa5.ne hna6).symm
 have sJa6:=sJa5.same ga6
 try dsimp only
 generalize t6 Ja5 a6 (.tup [.int 1])=Ja6 at ga6 ha6 sJa6
 refine ⟨(by show 1<=i7;decide),fun a7 hna7=>?_⟩
 have ga7:j7 Ja6 (t6 Ja6 a7 (.tup [.ref a6])):=j7.new hna7
 have ha7:t6 Ja6 a7 (.tup [.ref a6]) a7=some (.tup [.ref a6]):=f6
 have na7:a7≠l:=(sJa6.ne hna7).symm
 have sJa7:=sJa6.same ga7
 try dsimp only
 generalize t6 Ja6 a7 (.tup [.ref a6])=Ja7 at ga7 ha7 sJa7
 refine ⟨_,_,rfl,rfl,⟨by decide,by decide,by decide⟩,?_⟩
 refine ⟨(by show 1<=i7;decide),fun a8 hna8=>?_⟩
 have ga8:j7 Ja7 (t6 Ja7 a8 (.tup [.int 0])):=j7.new hna8
 have ha8:t6 Ja7 a8 (.tup [.int 0]) a8=some (.tup [.int 0]):=f6
 have na8:a8≠l:=(sJa7.ne hna8).symm
 have sJa8:=sJa7.same ga8
 try dsimp only
 generalize t6 Ja7 a8 (.tup [.int 0])=Ja8 at ga8 ha8 sJa8
 refine ⟨(by show 1<=i7;decide),fun a9 hna9=>?_⟩
 have ga9:j7 Ja8 (t6 Ja8 a9 (.tup [.int 21])):=j7.new hna9
 have ha9:t6 Ja8 a9 (.tup [.int 21]) a9=some (.tup [.int 21]):=f6
 have na9:a9≠l:=(sJa8.ne hna9).symm
 have sJa9:=sJa8.same ga9
 try dsimp only
 generalize t6 Ja8 a9 (.tup [.int 21])=Ja9 at ga9 ha9 sJa9
 have ea0:=(((((((((ga1).trans ga2).trans ga3).trans ga4).trans ga5).trans ga6).trans ga7).trans ga8).trans ga9) _ _ ha0
 have ea1:=((((((((ga2).trans ga3).trans ga4).trans ga5).trans ga6).trans ga7).trans ga8).trans ga9) _ _ ha1
 have ea2:=(((((((ga3).trans ga4).trans ga5).trans ga6).trans ga7).trans ga8).trans ga9) _ _ ha2
 have ea3:=((((((ga4).trans ga5).trans ga6).trans ga7).trans ga8).trans ga9) _ _ ha3
 have ea4:=(((((ga5).trans ga6).trans ga7).trans ga8).trans ga9) _ _ ha4
 have ea5:=((((ga6).trans ga7).trans ga8).trans ga9) _ _ ha5
 have ea6:=(((ga7).trans ga8).trans ga9) _ _ ha6
 have ea7:=((ga8).trans ga9) _ _ ha7
 have ea8:=(ga9) _ _ ha8
 have ea9:=(j7.refl _) _ _ ha9
 refine ⟨(by show 18<=i7;decide),fun pl hnpl=>?_⟩
 have gL:j7 Ja9 (t6 Ja9 pl (.lst ([.non,.bl true,.bl false,.int (-1),.int 0,.int 1,.str "",.str "1"]++[.ref a0,.ref a1,.ref a2,.ref a3,.ref a4,.ref a5,.ref a7,.int (10 ^ 29),.ref a8,.ref a9]))):=j7.new hnpl
 have hL:t6 Ja9 pl (.lst ([.non,.bl true,.bl false,.int (-1),.int 0,.int 1,.str "",.str "1"]++[.ref a0,.ref a1,.ref a2,.ref a3,.ref a4,.ref a5,.ref a7,.int (10 ^ 29),.ref a8,.ref a9])) pl=some (.lst ([.non,.bl true,.bl false,.int (-1),.int 0,.int 1,.str "",.str "1"]++[.ref a0,.ref a1,.ref a2,.ref a3,.ref a4,.ref a5,.ref a7,.int (10 ^ 29),.ref a8,.ref a9])):=f6
 have sHL:=sJa9.same gL
 show Gk _ _ _ (t6 Ja9 pl (.lst ([.non,.bl true,.bl false,.int (-1),.int 0,.int 1,.str "",.str "1"]++[.ref a0,.ref a1,.ref a2,.ref a3,.ref a4,.ref a5,.ref a7,.int (10 ^ 29),.ref a8,.ref a9])))
 generalize t6 Ja9 pl (.lst ([.non,.bl true,.bl false,.int (-1),.int 0,.int 1,.str "",.str "1"]++[.ref a0,.ref a1,.ref a2,.ref a3,.ref a4,.ref a5,.ref a7,.int (10 ^ 29),.ref a8,.ref a9]))=HL at gL hL sHL
 refine ⟨_,rfl,?_⟩
 refine ⟨(by show 5<=i7;decide),fun b0 hnb0=>?_⟩
 have gb0:j7 HL (t6 HL b0 (.tup [.int 1,.int 1,.int 1,.int 1,.int 1])):=j7.new hnb0
 have hb0:t6 HL b0 (.tup [.int 1,.int 1,.int 1,.int 1,.int 1]) b0=some (.tup [.int 1,.int 1,.int 1,.int 1,.int 1]):=f6
 have nb0:b0≠l:=(sHL.ne hnb0).symm
 have sJb0:=sHL.same gb0
 try dsimp only
 generalize t6 HL b0 (.tup [.int 1,.int 1,.int 1,.int 1,.int 1])=Jb0 at gb0 hb0 sJb0
 refine ⟨(by show 2<=i7;decide),fun b1 hnb1=>?_⟩
 have gb1:j7 Jb0 (t6 Jb0 b1 (.tup [.int 0,.int 0])):=j7.new hnb1
 have hb1:t6 Jb0 b1 (.tup [.int 0,.int 0]) b1=some (.tup [.int 0,.int 0]):=f6
 have nb1:b1≠l:=(sJb0.ne hnb1).symm
 have sJb1:=sJb0.same gb1
 try dsimp only
 generalize t6 Jb0 b1 (.tup [.int 0,.int 0])=Jb1 at gb1 hb1 sJb1
 refine ⟨(by show 2<=i7;decide),fun b2 hnb2=>?_⟩
 have gb2:j7 Jb1 (t6 Jb1 b2 (.tup [.int 0,.int 0])):=j7.new hnb2
 have hb2:t6 Jb1 b2 (.tup [.int 0,.int 0]) b2=some (.tup [.int 0,.int 0]):=f6
 have nb2:b2≠l:=(sJb1.ne hnb2).symm
 have sJb2:=sJb1.same gb2
 try dsimp only
 generalize t6 Jb1 b2 (.tup [.int 0,.int 0])=Jb2 at gb2 hb2 sJb2
 refine ⟨(by show 2<=i7;decide),fun b3 hnb3=>?_⟩
 have gb3:j7 Jb2 (t6 Jb2 b3 (.tup [.ref b1,.ref b2])):=j7.new hnb3
 have hb3:t6 Jb2 b3 (.tup [.ref b1,.ref b2]) b3=some (.tup [.ref b1,.ref b2]):=f6
 have nb3:b3≠l:=(sJb2.ne hnb3).symm
 have sJb3:=sJb2.same gb3
 try dsimp only
 generalize t6 Jb2 b3 (.tup [.ref b1,.ref b2])=Jb3 at gb3 hb3 sJb3
 have eb0:=(((gb1).trans gb2).trans gb3) _ _ hb0
 have eb1:=((gb2).trans gb3) _ _ hb1
 have eb2:=(gb3) _ _ hb2
 have eb3:=(j7.refl _) _ _ hb3
 refine ⟨(by show 2<=i7;decide),fun ph hnph=>⟨pl,ph,[.non,.bl true,.bl false,.int (-1),.int 0,.int 1,.str "",.str "1"]++[.ref a0,.ref a1,.ref a2,.ref a3,.ref a4,.ref a5,.ref a7,.int (10 ^ 29),.ref a8,.ref a9],[.ref b0,.ref b3],rfl,rfl,j7.new hnph _ _ (((((gb0).trans gb1).trans gb2).trans gb3) _ _ hL),f6,(by show 18+2<=i7;decide),fun pz hnpz=>?_⟩⟩
 have gZ:j7 Jb3 (t6 (t6 Jb3 ph (.lst [.ref b0,.ref b3])) pz (.lst (([.non,.bl true,.bl false,.int (-1),.int 0,.int 1,.str "",.str "1"]++[.ref a0,.ref a1,.ref a2,.ref a3,.ref a4,.ref a5,.ref a7,.int (10 ^ 29),.ref a8,.ref a9])++[.ref b0,.ref b3]))):=(j7.new hnph).trans (j7.new hnpz)
 have hZ:t6 (t6 Jb3 ph (.lst [.ref b0,.ref b3])) pz (.lst (([.non,.bl true,.bl false,.int (-1),.int 0,.int 1,.str "",.str "1"]++[.ref a0,.ref a1,.ref a2,.ref a3,.ref a4,.ref a5,.ref a7,.int (10 ^ 29),.ref a8,.ref a9])++[.ref b0,.ref b3])) pz=some (.lst (([.non,.bl true,.bl false,.int (-1),.int 0,.int 1,.str "",.str "1"]++[.ref a0,.ref a1,.ref a2,.ref a3,.ref a4,.ref a5,.ref a7,.int (10 ^ 29),.ref a8,.ref a9])++[.ref b0,.ref b3])):=f6
 have nz:pz≠l:=((sJb3.new hnph).ne hnpz).symm
 have sZ:=sJb3.same gZ
 try dsimp only
 generalize t6 (t6 Jb3 ph (.lst [.ref b0,.ref b3])) pz (.lst (([.non,.bl true,.bl false,.int (-1),.int 0,.int 1,.str "",.str "1"]++[.ref a0,.ref a1,.ref a2,.ref a3,.ref a4,.ref a5,.ref a7,.int (10 ^ 29),.ref a8,.ref a9])++[.ref b0,.ref b3]))=HZ at gZ hZ sZ
 have gA:j7 Ja9 HZ:=(gL.trans ((((gb0).trans gb1).trans gb2).trans gb3)).trans gZ
 have all:∀y∈((([.non,.bl true,.bl false,.int (-1),.int 0,.int 1,.str "",.str "1"]++[.ref a0,.ref a1,.ref a2,.ref a3,.ref a4,.ref a5,.ref a7,.int (10 ^ 29),.ref a8,.ref a9])++[.ref b0,.ref b3]):List V),Tg l HZ y:=fun y hy=>by
  simp only[H0,dz,C1,C0,or_false] at hy
  rcases hy with e|e|e|e|e|e|e|e|e|e|e|e|e|e|e|e|e|e|e|e
  ·rw[e];exact Tg.non _ _
  ·rw[e];exact Tg.bl _ _ _
  ·rw[e];exact Tg.bl _ _ _
  ·rw[e];exact Tg.int _ _ _
  ·rw[e];exact Tg.int _ _ _
  ·rw[e];exact Tg.int _ _ _
  ·rw[e];exact Tg.str _ _ _
  ·rw[e];exact Tg.str _ _ _
  ·rw[e];exact Tg.tup (gA _ _ ea0) na0 (by decide) fun z hz=>by cases hz
  ·rw[e];exact Tg.lst (gA _ _ ea1) na1 fun z hz=>by cases hz
  ·rw[e];exact Tg.tup (gA _ _ ea2) na2 (by decide) fun z hz=>by rw[List.mem_singleton.mp hz];exact (Tg.bl _ _ _).sh
  ·rw[e];exact Tg.lst (gA _ _ ea3) na3 fun z hz=>by rw[List.mem_singleton.mp hz];exact (Tg.int _ _ _).sh.da
  ·rw[e];exact Tg.dct (gA _ _ ea4) na4
  ·rw[e];exact Tg.tup (gA _ _ ea5) na5 (by decide) fun z hz=>by rw[List.mem_singleton.mp hz];exact (Tg.non _ _).sh
  ·rw[e];exact Tg.tup (gA _ _ ea7) na7 (by show 1<=1000;decide) fun z hz=>by
    rw[List.mem_singleton.mp hz]
    exact Sh.tup (gA _ _ ea6) na6 (by decide) fun z' hz'=>by rw[List.mem_singleton.mp hz'];exact (Tg.int _ _ _).sh.da
  ·rw[e];exact Tg.int _ _ _
  ·rw[e];exact Tg.tup (gA _ _ ea8) na8 (by decide) fun z hz=>by rw[List.mem_singleton.mp hz];exact (Tg.int _ _ _).sh
  ·rw[e];exact Tg.tup (gA _ _ ea9) na9 (by decide) fun z hz=>by rw[List.mem_singleton.mp hz];exact (Tg.int _ _ _).sh
  ·rw[e]
   refine Tg.tup (gZ _ _ eb0) nb0 (by decide) fun z hz=>?_
   have:z=.int 1:=by simpa using hz
   rw[this];exact (Tg.int _ _ _).sh
  ·rw[e]
   have zz:∀z∈([.int 0,.int 0]:List V),Da l HZ z:=fun z hz=>by
    have:z=.int 0:=by simpa using hz
    rw[this];exact (Tg.int _ _ _).sh.da
   refine Tg.tup (gZ _ _ eb3) nb3 (by show 2<=1000;decide) fun z hz=>?_
   simp only[C1,C0,or_false] at hz
   rcases hz with e|e
   ·rw[e];exact Sh.tup (gZ _ _ eb1) nb1 (by decide) zz
   ·rw[e];exact Sh.tup (gZ _ _ eb2) nb2 (by decide) zz
 generalize hL20:((([.non,.bl true,.bl false,.int (-1),.int 0,.int 1,.str "",.str "1"]++[.ref a0,.ref a1,.ref a2,.ref a3,.ref a4,.ref a5,.ref a7,.int (10 ^ 29),.ref a8,.ref a9])++[.ref b0,.ref b3]):List V)=L20 at hZ all
 have hlen:L20.length=20:=by rw[<- hL20];rfl
 obtain ⟨_,xz,hxz,okz⟩:=id sZ
 refine ⟨_,rfl,l,20,xz,b,rfl,hxz,okz,by decide,by decide,fun y xI hy okI=>?_⟩
 have sI:=sZ.go okI
 have kI':Kp l HZ (t6 HZ l (.lst [.int xI,.bl b])):=Kp.at
 exact ⟨pz,_,_,L20[y]'(by lia),rfl,rfl,.of (kI' _ _ nz hZ),C8 (d9 _),q _ _ sI ((all _ (F7 _)).kp kI')⟩
end
end G
namespace L2
open PySem PySem.Spec PyProof.Rows
section
variable {X:Cx}{pos:Pos}
end
theorem wN (l:Addr) (v:d6) (n:Nat) (dd:Option Addr) (sl:Array (Option d6)) (t:Tok):
  Dl (bI.«tuple.__mul__» ⟨[.ref l,.int 0 t],[]⟩) (fun _ R s=>s.heap.get? l=some { cls:=.type "tuple",dict:=dd,data:=.seq #[v] n,slots:=sl } /\
   R (.ok (.ret (.ref s.heap.objs.size))) { s with heap:=s.heap.push { cls:=.type "tuple",data:=.seq #[] } }):=
 .of_wp fun prog w A R s h=>by
  obtain ⟨hp,g,d,tk,os⟩:=s;obtain ⟨hl,h⟩:=h
  wp_walk
  exact ⟨_,rfl,h⟩
section
variable {X:Cx}
noncomputable def Jz (K:m9):R2:=fun x y H Q=>∃(a:Addr) (v:V) (k:Nat),x=.ref a/\y=.int k/\H a=some (.tup [v])/\k<=4/\∀p H',j7 H H'->H' p=some (.tup (m6 k v))->Q (.ref p) H'
theorem Er:gK X (R1 .Mult) (Jz X.K):=by
 intro pins s σ H x y w' u Q I rx ry h
 obtain ⟨a,v,k,rfl,rfl,ha,h4,q⟩:=h
 by_cases hk:k=0
 ·subst hk
  cases rx
  obtain ⟨t,rfl⟩:=ry
  obtain ⟨its,r,p1,_⟩:=I.tuple (show aQ X.K H a [v] from .of ha)
  cases r with
  | cons r1 rr =>
   cases rr
   obtain ⟨⟨cls,dd,data,sl⟩,ho,hc,n,hd⟩:=id p1
   simp only at hc hd
   subst hc hd
   refine aU (T:="tuple") (U:="int") (by decide) ⟨_,ho,rfl⟩ (fun s'=>bP s' _ t) Z2 jF U5 cM F.slot_int_index.lookup
    (W2 U5 (bP s _ t) iY (gJ _ _) (fC _ t a _ n dd sl) ⟨ho,rfl,⟨_,ho,rfl⟩,?_⟩)
   refine W2 dc ⟨_,ho,rfl⟩ cw (bz _ _) (wN a _ n dd sl t) ⟨ho,?_⟩
   refine ⟨.ref s.heap.objs.size,t6 H s.heap.objs.size (.tup []),I.laid (t':=s.toks) (o:=.tup []) (fun b ob q=>f9 _ q) (i9 _) ?_,rfl,q _ _ (j7.new (I.hok.fresh (i9 _))) f6⟩
   exact ⟨⟨by show 0<=i7;decide,⟨_,q9 _ rfl,rfl⟩⟩,[],.nil,cu _ _⟩
 ·refine xR pins s σ H (.ref a) (.int (k:Int)) w' u Q I rx ry ⟨a,v,(k:Int),rfl,rfl,.of ha,by lia,by lia,fun e=>?_,fun e p hp=>?_⟩
  ·have:k=1:=by lia
   subst this
   exact q a H (j7.refl _) ha
  ·exact q p _ (j7.new hp) (by rw[Q8];exact f6)
end
theorem wK (l:Addr) (v:d6) (n:Nat) (dd:Option Addr) (sl:Array (Option d6)) (t:Tok) (xs:Array d6) (k:Nat) (hk:2<=k/\k<=21) (hx:(m6 k #[v]).foldl (·++·) #[]=xs) (hs:xs.size=k):
  Dl (bI.«tuple.__mul__» ⟨[.ref l,.int (k:Int) t],[]⟩) (fun _ R s=>s.heap.get? l=some { cls:=.type "tuple",dict:=dd,data:=.seq #[v] n,slots:=sl } /\
   R (.ok (.ret (.ref s.heap.objs.size))) { s with heap:=s.heap.push { cls:=.type "tuple",data:=.seq xs } }):=
 .of_wp fun prog w A R s h=>by
  obtain ⟨hp,g,d,tk,os⟩:=s;obtain ⟨hl,h⟩:=h
  wp_walk
  rw[if_neg (by rw[Bool.or_eq_true,decide_eq_true_eq,decide_eq_true_eq];lia)]
  wp_walk
  rw[if_neg (by show ¬ ((false || ((k:Int) == 1))=true);rw[vB,beq_iff_eq];lia)]
  rw[if_neg (by show ¬ ((decide ((k:Int)<=0) || false)=true);rw[Bool.or_false,decide_eq_true_eq];lia)]
  rw[if_neg (by show ¬ (((1:Nat):Int)*(k:Int) > (2 ^ 63 - 1) / 8);lia)]
  rw[if_neg (by show ¬ (decide (((1:Nat):Int)*(k:Int) > (i7:Int))=true);rw[decide_eq_true_eq,S6];lia)]
  simp only[Q8,hx]
  wp_walk
  rw[if_neg (by rw[hs,S6];lia)]
  wp_walk
  exact ⟨_,rfl,h⟩
theorem wJ (l:Addr) (v:d6) (n:Nat) (dd:Option Addr) (sl:Array (Option d6)) (t:Tok) (k:Nat) (hk:2<=k/\k<=21):
  Dl (bI.«tuple.__mul__» ⟨[.ref l,.int (k:Int) t],[]⟩) (fun _ R s=>s.heap.get? l=some { cls:=.type "tuple",dict:=dd,data:=.seq #[v] n,slots:=sl } /\
   R (.ok (.ret (.ref s.heap.objs.size))) { s with heap:=s.heap.push { cls:=.type "tuple",data:=.seq (m6 k v).toArray } }):=
 wK l v n dd sl t _ k hk (by rw[uL];simp only[Array.empty_append]) (by simp)
section
variable {X:Cx}
noncomputable def Fz:R2:=fun x y H Q=>∃(a:Addr) (v:V) (k:Nat),x=.ref a/\y=.int k/\H a=some (.tup [v])/\k<=21/\∀p H',j7 H H'->H' p=some (.tup (m6 k v))->Q (.ref p) H'
theorem xQ:gK X (R1 .Mult) Fz:=by
 intro pins s σ H x y w' u Q I rx ry h
 obtain ⟨a,v,k,rfl,rfl,ha,h4,q⟩:=h
 by_cases hk:k<=4
 ·exact Er pins s σ H _ _ w' u Q I rx ry ⟨a,v,k,rfl,rfl,ha,hk,q⟩
 cases rx
 obtain ⟨t,rfl⟩:=ry
 obtain ⟨its,r,p1,_⟩:=I.tuple (aQ.of (K:=X.K) ha)
 cases r with
 | cons r1 rr =>
  cases rr
  obtain ⟨⟨cls,dd,data,sl⟩,ho,hc,n,hd⟩:=id p1
  simp only at hc hd
  subst hc hd
  refine aU (T:="tuple") (U:="int") (by decide) ⟨_,ho,rfl⟩ (fun s'=>bP s' _ t) Z2 jF U5 cM F.slot_int_index.lookup
   (W2 U5 (bP s _ t) iY (gJ _ _) (fC _ t a _ n dd sl) ⟨ho,rfl,⟨_,ho,rfl⟩,?_⟩)
  refine W2 dc ⟨_,ho,rfl⟩ cw (bz _ _) (wJ a _ n dd sl t k (by lia)) ⟨ho,?_⟩
  refine ⟨.ref s.heap.objs.size,_,I.laid (t':=s.toks) (o:=.tup (m6 k v)) (fun b ob q=>f9 _ q) (i9 _) ?_,rfl,q _ _ (j7.new (I.hok.fresh (i9 _))) f6⟩
  exact ⟨⟨by rw[J7,S6];lia,⟨_,q9 _ rfl,rfl⟩⟩,_,mY r1 _,cu _ _⟩
end
section
variable {prog:j9}{w:t9}{A:v7}{E:d6->d7->Prop}{s:d7}
theorem sC {t sl:Addr}{its:List d6}{tk:Tok}{Q:d6->d7->Prop} (ht:Ds s.heap t its.toArray) (hs:s.heap.IsSliceOf sl .none .none (.int (-1) tk)) (hsz:its.length<=i7)
  (h:Q (.ref s.heap.objs.size) { s with heap:=s.heap.push { cls:=.type "tuple",data:=.seq its.reverse.toArray } }):r0 (y6 prog w) A (dN (.ref t) (.ref sl)) Q E s:=by
 have htake:sizeOk (.seq its.reverse.toArray):=by
  show its.reverse.toArray.size<=i7
  rw[n6,J6];exact hsz
 obtain ⟨os,hos,hcs,hds⟩:=id hs
 have hTs:s.TypeIs (.ref sl) "slice":=⟨os,hos,hcs⟩
 unfold dN
 try with_reducible refine O5 ?_
 first|refine b8 (i8 ?_)|skip
 refine b8 (qN ht.typeIs (by decide) ?_)
 refine b8 (G2 (name:=U3 "__getitem__") ht.typeIs I0
  (M7 I0 ht.typeIs mP ?_ (oZ _ _)))
 show r0 _ _ (cx (.ref t) >>= _) _ _ s
 refine b8 (Af ht ?_)
 refine b8 (qM hTs ?_)
 rw[if_pos (by decide)]
 refine b8 ?_
 unfold cy lJ
 refine b8 (b8 (D3 hos hds (x:=.none) rfl (b8 (D3 hos hds (x:=.none) rfl (b8 (D3 hos hds (x:=.int (-1) tk) rfl (i8 ?_)))))))
 refine b8 (slicePart_int ?_)
 show r0 _ _ (if ((-1:Int) == 0)=true then _ else _) _ _ s
 rw[if_neg (by decide)]
 refine b8 (me (b8 (me (b8 (i8 ?_)))))
 have hz:its.toArray.size=its.length:=n6 ..
 rw[hz]
 have e1:R4 none none (-1) (its.length:Int)=((its.length:Int) - 1,-1):=rfl
 have e2:F5 ((its.length:Int) - 1) (-1) (-1)=its.length:=by
  unfold F5
  rw[if_neg (by decide)]
  split
  ·simp only[Int.neg_neg,Lg]
   lia
  ·lia
 show r0 _ _ (match R4 none none (-1) (its.length:Int) with | (lo,hi)=>pure (lo,(-1:Int),F5 lo hi (-1))) _ _ s
 rw[e1]
 show r0 _ _ (pure ((its.length:Int) - 1,(-1:Int),F5 ((its.length:Int) - 1) (-1) (-1))) _ _ s
 rw[e2]
 refine i8 ?_
 show r0 _ _ (if (((its.length:Int) - 1) == 0&&(-1:Int) == 1&&its.length == its.toArray.size)=true then _ else _) _ _ s
 rw[if_neg (by rw[show ((-1:Int) == 1)=false from rfl,bJ,F8];exact A3),Bg]
 first
  | exact b8 (m:=G3 _) (C9 (i8 ⟨_,rfl,i8 h⟩) htake)
  | exact b8 (m:=G3 _) (C9 (b8 (i8 (i8 ⟨_,rfl,i8 h⟩))) htake)
  | exact b8 (b8 (m:=G3 _) (C9 (i8 (i8 ⟨_,rfl,i8 h⟩)) htake))
  | exact b8 (b8 (m:=G3 _) (C9 (i8 ⟨_,rfl,i8 h⟩) htake))
end
section
variable {X:Cx}
noncomputable def Jf (K:m9) (te ts:TE):TE:=fun σ H Q=>te σ H fun x H1=>ts σ H1 fun y H2=>∃a xs,x=.ref a/\y=.int (-1)/\aQ K H2 a xs/\∀p,H2 p=none->Q (.ref p) (t6 H2 p (.tup xs.reverse))
theorem Ek {e st:Expr}{te ts:TE}{p2 pos:Pos} (he:PE X e te) (hst:PE X st ts):PE X (.Subscript e (.Slice none none (some st) p2) pos) (Jf X.K te ts):=by
 intro pins s σ H Q I h
 refine yS (Q9 (he pins s σ H _ I h) fun v s1 ⟨x,H1,I1,r1,q1⟩=>?_)
 refine wpAny_Slice ?_
 rw[Ai]
 refine i8 (i8 ?_)
 rw[evalPart_some]
 refine Q9 (hst pins s1 σ H1 _ I1 q1) fun u s3 ⟨y,H3,I3,ry,a,xs,ex,ey,hx,q⟩=>?_
 subst ex ey
 cases r1
 obtain ⟨tk,rfl⟩:=ry
 have I4:C6 X pins σ H3 { s3 with heap:=s3.heap.push { cls:=.type "slice",data:=.fields #[.none,.none,.int (-1) tk] } }:=I3.kept (t':=s3.toks) fun b ob q=>f9 _ q
 obtain ⟨its,r,ht,hz⟩:=I4.tuple hx
 have hlen:=r.length
 show r0 (y6 X.prog X.w) X.A (oM e (.Slice none none (some st) p2) (.ref a) (.ref s3.heap.objs.size)) (EP X pins σ Q) X.xe { s3 with heap:=s3.heap.push { cls:=.type "slice",data:=.fields #[.none,.none,.int (-1) tk] } }
 refine tail_any (ops:=[.ref a,.ref s3.heap.objs.size]) ht.typeIs PyProof.Rows.slot_tuple_getitem.lookup ?_ (by with_unfolding_all rfl)
 refine sC ht (pQ ..) (by lia) ?_
 exact ⟨.ref _,_,I4.laid (t':=s3.toks) (o:=.tup xs.reverse) (fun b ob q=>f9 _ q) (i9 _) ⟨⟨by rw[J6];exact hz,⟨_,q9 _ rfl,rfl⟩⟩,_,r.reverse,cu _ _⟩,rfl,q _ (I4.hok.fresh (i9 _))⟩
end
end L2
namespace G
open PySem PySem.Spec PyProof.Rows L2 Mt Md Mq
variable {H:Hp}
theorem tR {te:TE}{i:Nat}{u:TS}{D:kJ}{σ:L2.St}(h:te σ H fun v H1=>u D (σ.set i (some v)) H1):fk (Eb te (N7 i)) u D σ H:=h
noncomputable def Pm (p:A2->Bool) (l:Addr) (H:Hp) (v:V):Prop:=∃d,Dt l H d v/\p d=true
theorem Pm.mo {p:A2->Bool}{l:Addr}:∀(H H':Hp) (v:V),j7 H H'->Pm p l H v->Pm p l H' v:=fun H H' v g ⟨d,h,e⟩=>⟨d,h.kp (g.kp l),e⟩
theorem Pm.kp {p:A2->Bool}{l:Addr}{H H':Hp}{v:V} (h:Pm p l H v) (k:Kp l H H'):Pm p l H' v:=let ⟨d,h,e⟩:=h;⟨d,h.kp k,e⟩
theorem mL {l:Addr}{H:Hp}{p:A2->Bool}:∀{xs:List V},(∀x∈xs,Pm p l H x)->∃ds,P3 l H ds xs/\ds.all p=true/\ds.length=xs.length
 | [],_=>⟨[],rfl,rfl,rfl⟩
 | x::xs,h=>by
  obtain ⟨d,hd,e⟩:=h x i4
  obtain ⟨ds,hs,e2,e3⟩:=mL (xs:=xs) fun y hy=>h y (f7 _ hy)
  exact ⟨d::ds,⟨x,xs,rfl,hd,hs⟩,by rw[vz,e,e2];rfl,by rw[r6,r6,e3]⟩
theorem Pm.tup {p p':A2->Bool}{l q:Addr}{H:Hp}{xs:List V} (hp:∀ds,p (.tuple ds)=(decide (ds.length<=1000)&&ds.all p')) (hq:H q=some (.tup xs)) (hn:q≠l) (hl:xs.length<=1000) (h:∀x∈xs,Pm p' l H x):Pm p l H (.ref q):=by
 obtain ⟨ds,hs,e,el⟩:=mL h
 exact ⟨.tuple ds,Dt.tup hn hq hs,by rw[hp,e,el,decide_eq_true hl];rfl⟩
theorem Pm.lst {p p':A2->Bool}{l q:Addr}{H:Hp}{xs:List V} (hp:∀ds,p (.list ds)=true) (hq:H q=some (.lst xs)) (hn:q≠l) (h:∀x∈xs,Pm p' l H x):Pm p l H (.ref q):=by
 obtain ⟨ds,hs,e,_⟩:=mL h
 exact ⟨.list ds,Dt.lst hn hq hs,hp ds⟩
noncomputable def El (Pr:Hp->V->Prop) (te:TE) (σ:L2.St) (H:Hp):Prop:=∀H1,j7 H H1->∀Q:VK,(∀v H',j7 H1 H'->Pr H' v->Q v H')->te σ H1 Q
noncomputable def CV (Pr:Hp->V->Prop) (n:Nat) (ta:TA) (σ:L2.St) (H:Hp):Prop:=∀H1,j7 H H1->∀Q:List V->Hp->Prop,(∀vs H',j7 H1 H'->vs.length=n->(∀v∈vs,Pr H' v)->Q vs H')->ta σ H1 Q
section
variable {p p':A2->Bool}{l:Addr}{Pr:Hp->V->Prop}{n:Nat}{te:TE}{ta:TA}{σ:L2.St}{H:Hp}
theorem CV.nil:CV Pr 0 jQ σ H:=fun H1 _ Q q=>q [] H1 (j7.refl H1) rfl (by simp)
theorem CV.cons (h1:El (Pm p l) te σ H) (h2:CV (Pm p l) n ta σ H):CV (Pm p l) (n+1) (bV te ta) σ H:=fun H1 g1 Q q =>
 h1 H1 g1 _ fun v H2 g2 p2=>h2 H2 (g1.trans g2) _ fun vs H3 g3 l3 p3=>q (v::vs) H3 (g2.trans g3) (by rw[r6,l3]) fun x hx=>by
  rcases List.mem_cons.mp hx with e|e
  ·rw[e];exact Pm.mo _ _ _ g3 p2
  ·exact p3 x e
theorem El.iv (i:Int) (hb:p (.int i)=true) (h:∀(H1:Hp) (Q:VK),Q (.int i) H1->te σ H1 Q):El (Pm p l) te σ H:=fun H1 g1 Q q=>h H1 Q (q _ _ (j7.refl _) ⟨.int i,Dt.int l H1 i,hb⟩)
theorem El.ci {i:Int} (hb:p (.int i)=true):El (Pm p l) (tC (.int i)) σ H:=El.iv i hb fun _ _ q=>q
theorem El.cb {b:Bool} (hb:p (.bool b)=true):El (Pm p l) (tC (.bl b)) σ H:=fun H1 g1 Q q=>q _ _ (j7.refl _) ⟨.bool b,Dt.bl l H1 b,hb⟩
theorem El.cn (hb:p .none=true):El (Pm p l) (tC .non) σ H:=fun H1 g1 Q q=>q _ _ (j7.refl _) ⟨.none,Dt.non l H1,hb⟩
theorem El.cs {x:Str} (hb:p (.str x)=true):El (Pm p l) (tC (.str x)) σ H:=fun H1 g1 Q q=>q _ _ (j7.refl _) ⟨.str x,Dt.str l H1 x,hb⟩
theorem El.var {i:Nat}{v:V} (hi:σ[i]?=some (some v)) (h:Pm p l H v):El (Pm p l) (O9 i) σ H:=fun H1 g1 Q q=>⟨v,hi,q _ _ (j7.refl _) (Pm.mo _ _ _ g1 h)⟩
theorem El.tup {o:HO} (hp:∀ds,p (.tuple ds)=(decide (ds.length<=1000)&&ds.all p')) (hl:H l=some o) (hn:n<=1000) (h:CV (Pm p' l) n ta σ H):El (Pm p l) (pA ta) σ H:=fun H1 g1 Q q =>
 h H1 g1 _ fun vs H2 g2 l2 p2=>⟨by rw[l2];exact sz hn,fun t ht=>q _ _ (g2.trans (j7.new ht)) (Pm.tup (p':=p') hp f6 (v8 ((g1.trans g2) _ _ hl) ht).symm (by lia) fun x hx=>Pm.mo _ _ _ (j7.new ht) (p2 x hx))⟩
theorem CV.run {Q:VK} (h:CV (Pm p l) n ta σ H) (hn:n<=1000) (q:∀vs H1 t,j7 H H1->H1 t=none->vs.length=n->(∀v∈vs,Pm p l H1 v)->Q (.ref t) (t6 H1 t (.lst vs))):Ea ta σ H Q :=
 h H (j7.refl H) _ fun vs H1 g1 l1 p1=>⟨by rw[l1];exact sz hn,fun t ht=>q vs H1 t g1 ht l1 p1⟩
theorem El.ofT {o:HO}{m:Nat} (hp:∀ds,p (.tuple ds)=(decide (ds.length<=1000)&&ds.all p')) (hl:H l=some o) (hno:∀xs,o≠.tup xs) (hm:m<=1000) (h:∀H1,j7 H H1->W9 (Pm p' l) m te σ H1):El (Pm p l) te σ H:=fun H1 g1 Q q =>
 h H1 g1 _ fun t H2 xs g2 ht e hl2=>q _ _ g2 (Pm.tup (p':=p') hp ht (fun z=>by rw[z,(g1.trans g2) _ _ hl] at ht;exact hno xs (by injection ht)) (by lia) e)
end
section
variable {P:j9}{w:t9}{K:m9}{mg:Str->Option d6}{base:Heap}{f:Addr}{fd:C4}{ec:Nat->Addr}{Bs:Addr}
noncomputable def jR (A:V->V->Hp->Prop):Sp:=fun vs H Q _=>∃(d:A2) (st p r:Addr) (xs ys:List V),vs=[.ref p,.ref r]/\BM d=true/\lB d=true/\Dt st H d (.ref p)/\Dt st H d (.ref r)/\H p=some (.tup xs)/\H r=some (.tup ys)/\xs.length=ys.length/\xs.length<=1000 /\
 (∀(i:Nat) x y H',xs[i]?=some x->ys[i]?=some y->j7 H H'->A x y H')/\∀H',j7 H H'->Q (.bl true) H'
theorem BI {k:Nat}{sp:Sp}{A:V->V->Hp->Prop} (F:aY K "_law_same" "_law_same" nI f fd) (B:Bt mg) (c1:S2 P w K mg base k "_law_same" ["_law_found","_law_due_here"] sp) (hA:∀x y H (Q:VK) (E:XK),A x y H->(∀H',j7 H H'->Q (.bl true) H')->sp [x,y] H Q E):M0 P w K mg base cH (k+1) f fd ["_law_found","_law_due_here"] (jR A):=by
 refine F.ok xF (fun vs H Q E h=>?_) (fun cdv A0 outer s H vs Q E hr h=>?_)
 ·obtain ⟨d,st,p,r,xs,ys,rfl,_⟩:=h
  rfl
 obtain ⟨d,st,p,r,xs,ys,rfl,hok,hsq,dp0,dr0,hp,hr2,hxy,hlx,hall,q⟩:=h
 refine ⟨_,n5 (R0 (V5 (t7 qF rfl B.isinstance A1 (b7 (pv 1) (b7 (D0 (b7 (S8 rfl B.tuple E7) (b7 (S8 rfl B.list fR) d8))) d8))))
   (n5 (R0 (PW.pt (jU (N6 jg (t7 (Q4 dW) rfl B.isinstance A1 (b7 (pv 0) (b7 (S8 rfl B.tuple E7) d8))) (t7 (Q4 dW) rfl B.isinstance A1 (b7 (pv 1) (b7 (S8 rfl B.tuple E7) d8))) (M5 _))
    (fF (N6 jg (t7 (Q4 uA) rfl B.isinstance A1 (b7 (pv 0) (b7 (S8 rfl B.list fR) d8))) (t7 (Q4 uA) rfl B.isinstance A1 (b7 (pv 1) (b7 (S8 rfl B.list fR) d8))) (M5 _))))) (v5 (C7 Y4)) F6)
   (v5 (C7 (cC (cN ik (t7 B7 rfl B.len A5 (b7 (pv 0) d8)) (t7 B7 rfl B.len A5 (b7 (pv 1) d8)) (M5 _))
    (cB (t7 (Z4 rfl) rfl B.all qX (b7 (J9 (N:=["_law_one","_law_other"]) (ix:=[none,none]) (ifs:=[]) (tc:=Q2) rfl (GQ rfl B.zip (b7 (pv 0) (b7 (pv 1) d8)))
     (fun s H ex=>Ej (K:=K) (n:=2) rfl rfl (S4 (aE (i:=0) (by decide +kernel) rfl (B5 rfl) (.inr rfl)) (S4 (aE (i:=1) (by decide +kernel) rfl (B5 rfl) (.inr rfl)) fH))) (fun s H ex=>F9)
     (fun s H ex=>B8 c1 hr rfl (b7 (pv 0) (b7 (pv 1) d8))) rfl (by decide +kernel) (by rfl) (by rfl) (fun _=>rfl)) d8))))))) F6) qj,?_⟩
 have dp:∀H',j7 H H'->Dt st H' d (.ref p):=fun H' g=>dp0.kp (g.kp st)
 have dr:∀H',j7 H H'->Dt st H' d (.ref r):=fun H' g=>dr0.kp (g.kp st)
 refine ⟨_,rfl,(by show 2<=i7;decide),fun t ht=>?_⟩
 have g1:j7 H (t6 H t (.tup [.ty "tuple",.ty "list"])):=j7.new ht
 refine ⟨.ref r,_,_,t,rfl,dr _ g1,hok,f6,_,rfl,?_⟩
 rw[hsq]
 refine P8 ?_
 generalize t6 H t (.tup [.ty "tuple",.ty "list"])=H1 at g1
 refine ⟨_,rfl,.ref p,_,_,rfl,dp _ g1,_,rfl,.ref r,_,_,rfl,dr _ g1,rfl,_,rfl,?_⟩
 rw[decide_eq_true rfl]
 refine Q3 ⟨_,rfl,.ref p,_,_,rfl,dp _ g1,_,rfl,.ref r,_,_,rfl,dr _ g1,rfl,_,rfl,?_⟩
 rw[decide_eq_true rfl]
 refine Q3 ⟨_,rfl,p,_,rfl,.inr (.of (g1 _ _ hp)),_,rfl,r,_,rfl,.inr (.of (g1 _ _ hr2)),rfl,_,rfl,?_⟩
 rw[decide_eq_true (by rw[hxy])]
 refine P8 ⟨_,rfl,_,rfl,p,r,_,_,rfl,.of (g1 _ _ hp),.of (g1 _ _ hr2),?_⟩
 refine sS (K:=K) (a:=p) (b:=r) (xs:=xs) (ys:=ys) (sz hlx) hxy
  (fun i zs H2=>j7 H H2/\zs=m6 i (.bl true)) ⟨g1,rfl⟩ (fun i zs H2 h=>by rw[h.2,J7]) (fun i zs H2 _ h=>⟨.of (h.1 _ _ hp),.of (h.1 _ _ hr2)⟩) ⟨rfl,rfl⟩ (fun i zs H2 x y p' hx hy hp' h=>?_) (fun zs H2 h=>?_)
 ·obtain ⟨hS,rfl⟩:=h
  have hS':=hS.trans (j7.new (o:=.tup [x,y]) hp')
  refine ⟨_,rfl,_,rfl,hA _ _ _ _ _ (hall i x y _ hx hy hS') fun H3 g3=>⟨hS'.trans g3,?_⟩⟩
  rw[List.replicate_succ']
 ·obtain ⟨hS,rfl⟩:=h
  intro pz hpz
  refine ⟨pz,_,rfl,.inl (.of f6),?_,?_⟩
  ·rw[Dq];simp[uo]
  ·rw[show ((m6 xs.length (V.bl true)).all jN)=true by rw[Dq];simp[jN]]
   exact q _ (hS.trans (j7.new hpz))
noncomputable def A0:V->V->Hp->Prop:=fun x y _=>∃i:Int,x=.int i/\y=.int i
theorem Kx {x y:V}{H:Hp}{Q:VK}{E:XK} (h:A0 x y H) (q:∀H',j7 H H'->Q (.bl true) H'):nu [x,y] H Q E:=by
 obtain ⟨i,rfl,rfl⟩:=h
 exact ⟨.int i,rfl,.inr ⟨i,rfl⟩,q⟩
noncomputable def xf:A2->Bool:=fun _=>true
noncomputable def Gx:A2->Bool
 | .tuple ds=>decide (ds.length<=1000)&&ds.all xf
 | _=>true
theorem fw (ds:List A2):Gx (.tuple ds)=(decide (ds.length<=1000)&&ds.all xf):=rfl
theorem zd {d:A2} (h:Gx d=true):aN d:=fun ds e=>by
 subst e
 rw[fw,A6] at h
 exact of_decide_eq_true h.1
theorem W9.rep {l:Addr}{σ:L2.St}{H:Hp}{te:TE} (k:Nat) (hk:k<=21) (h:∀(H1:Hp) (Q:VK),j7 H H1->Q (.int (k:Int)) H1->te σ H1 Q):W9 (Pm xf l) 21 (fe Fz (pA (bV (tC (.int 0)) jQ)) te) σ H:=by
 intro Q q
 refine ⟨(by show 1<=i7;decide),fun t ht=>h _ _ (j7.new ht) ⟨t,.int 0,k,rfl,rfl,f6,hk,fun p H' g hp=>q p H' _ ((j7.new ht).trans g) hp (fun z hz=>?_) (by rw[J7];exact hk)⟩⟩
 rw[(List.mem_replicate.mp hz).2]
 exact ⟨_,Dt.int _ _ _,rfl⟩
noncomputable def rB:Sp:=fun vs H Q _=>∃(l da:Addr) (x:Int) (b:Bool) (n:Nat) (ks:List Nat),vs=[.ref l,.ref da,.int n]/\H l=some (.lst [.int x,.bl b])/\lF x b/\H da=some (.tup ((cI ks).map V.int))/\ks.length<=20 /\
 ∀(v:V) (H':Hp),Y0 l b H H'->Pm Gx l H' v->Q v H'
noncomputable abbrev wq:Stmt:=eI 59
theorem mJ:C3 ["_law_state_here","_law_draws","_law_kinds","_law_at","_law_odd_here","_law_some"] ["_law_state_here","_law_draws","_law_kinds"] (v9 wq):=⟨rfl,rfl,rfl,by decide +kernel,rfl,by decide +kernel,by decide +kernel⟩
theorem EA (F:aY K "_law_bent" "_law_bent" wq f fd) (B:Bt mg) (c1:S2 P w K mg base 1 "_law_take" ["_law_state_here","_law_many"] aM):M0 P w K mg base cH 2 f fd ["_law_state_here","_law_draws","_law_kinds"] rB:=by
 refine F.ok mJ (fun vs H Q E h=>?_) (fun cdv A outer s H vs Q E hr h=>?_)
 ·obtain ⟨l,da,x,b,n,ks,rfl,_⟩:=h
  rfl
 obtain ⟨l,da,x,b,n,ks,rfl,hl,hst,hda,k20,q⟩:=h
 refine ⟨_,(@n5 _ _ _ _ _ (@D6 _ _ 3 _ _ _ _ mJ.nd rfl (B5 rfl) (B8 c1 hr rfl (@b7 _ _ _ _ _ (pv 0) (@b7 _ _ _ _ _ (@A7 _ _ _ _ _ _ _ _ P7 (t7 B7 rfl B.len A5 (@b7 _ _ _ _ _ (pv 1) d8 (by rfl))) j8) d8 (by rfl)) (by rfl))) (by rfl) (by first|exact .inl rfl|exact .inr rfl))
  (@n5 _ _ _ _ _ (@D6 _ _ 4 _ _ _ _ mJ.nd rfl (B5 rfl) (@G1 _ _ _ _ _ _ _ O7 (@N1 _ _ _ _ (@b7 _ _ _ _ _ (pv 2) (@b7 _ _ _ _ _ (Bw vO j8) (@b7 _ _ _ _ _ Y4 (@b7 _ _ _ _ _ Y4 (@b7 _ _ _ _ _ fI (@b7 _ _ _ _ _ ie (@b7 _ _ _ _ _ (@D0 _ _ _ _ _ (@b7 _ _ _ _ _ j8 d8 (by rfl))) (@b7 _ _ _ _ _ (@A7 _ _ _ _ _ _ _ _ lp j8 j8) (@b7 _ _ _ _ _ j8 d8 (by rfl)) (by rfl)) (by rfl)) (by rfl)) (by rfl)) (by rfl)) (by rfl)) (by rfl)) (by rfl))) (B8 c1 hr rfl (@b7 _ _ _ _ _ (pv 0) (@b7 _ _ _ _ _ j8 d8 (by rfl)) (by rfl))) (fun _ _=>rfl)) (by rfl) (by first|exact .inl rfl|exact .inr rfl))
  (@n5 _ _ _ _ _ (@D6 _ _ 5 _ _ _ _ mJ.nd rfl (B5 rfl) (@N1 _ _ _ _ (@b7 _ _ _ _ _ (@A7 _ _ _ _ _ _ _ _ cf (@A7 _ _ _ _ _ _ _ _ cf (@G0 _ _ _ _ _ _ _ _ _ _ lN (pv 1) L6 (L5 (pv 3))) (@D0 _ _ _ _ _ (@b7 _ _ _ _ _ (pv 4) d8 (by rfl)))) (@G0 _ _ _ _ _ _ _ _ _ _ lN (pv 1) (L5 (@A7 _ _ _ _ _ _ _ _ P7 (pv 3) j8)) L6)) (@b7 _ _ _ _ _ (@A7 _ _ _ _ _ _ _ _ cf (@A7 _ _ _ _ _ _ _ _ cf (@G0 _ _ _ _ _ _ _ _ _ _ lN (pv 1) L6 (L5 (pv 3))) (@D0 _ _ _ _ _ (@b7 _ _ _ _ _ (pv 4) d8 (by rfl)))) (@G0 _ _ _ _ _ _ _ _ _ _ lN (pv 1) (L5 (pv 3)) L6)) (@b7 _ _ _ _ _ (E6 cQ rfl B.list fR (@b7 _ _ _ _ _ (pv 1) d8 (by rfl))) (@b7 _ _ _ _ _ fI (@b7 _ _ _ _ _ (@D0 _ _ _ _ _ (@b7 _ _ _ _ _ (pv 1) d8 (by rfl))) (@b7 _ _ _ _ _ Em d8 (by rfl)) (by rfl)) (by rfl)) (by rfl)) (by rfl)) (by rfl))) (by rfl) (by first|exact .inl rfl|exact .inr rfl))
  (@v5 _ _ _ (C7 (@G1 _ _ _ _ _ _ _ O7 (@A7 _ _ _ _ _ _ _ _ lr (pv 5) (@N1 _ _ _ _ (@b7 _ _ _ _ _ (@A7 _ _ _ _ _ _ _ _ cf (pv 1) (@A7 _ _ _ _ _ _ _ _ xQ (@D0 _ _ _ _ _ (@b7 _ _ _ _ _ j8 d8 (by rfl))) (@A7 _ _ _ _ _ _ _ _ sj j8 (t7 B7 rfl B.len A5 (@b7 _ _ _ _ _ (pv 1) d8 (by rfl)))))) (@b7 _ _ _ _ _ (@A7 _ _ _ _ _ _ _ _ cf (pv 1) (@A7 _ _ _ _ _ _ _ _ xQ (@D0 _ _ _ _ _ (@b7 _ _ _ _ _ j8 d8 (by rfl))) (@A7 _ _ _ _ _ _ _ _ sj j8 (t7 B7 rfl B.len A5 (@b7 _ _ _ _ _ (pv 1) d8 (by rfl)))))) d8 (by rfl)) (by rfl)))) (B8 c1 hr rfl (@b7 _ _ _ _ _ (pv 0) (@b7 _ _ _ _ _ j8 d8 (by rfl)) (by rfl))) (fun _ _=>rfl))))))),?_⟩
 have s0:Y0 l b H H:=Y0.start hl hst
 have nda:da≠l:=HJ hl hda
 have lk:=W8 ks
 refine ⟨_,rfl,_,rfl,da,_,rfl,.inr (.of hda),_,_,rfl,rfl,l,_,x,b,rfl,hl,hst,?_,?_,fun at0 x1 hat ok1=>?_⟩
 ·rw[b9];lia
 ·rw[b9];lia
 have s1:=s0.go ok1
 have k1:Kp l H (t6 H l (.lst [.int x1,.bl b])):=Kp.at
 try dsimp -proj only[N7]
 generalize t6 H l (.lst [.int x1,.bl b])=H1 at s1 k1
 have hda1:=k1 _ _ nda hda
 obtain ⟨_,x1',hx1,_⟩:=id s1
 generalize hks:(cI ks).map V.int=xs at hda1
 have hxl:xs.length<=20:=by rw[<- hks,b9];lia
 have hxa:∀(H':Hp),∀z∈xs,Pm xf l H' z:=fun H' z hz=>by
  rw[<- hks] at hz
  obtain ⟨i,_,e⟩:=List.mem_map.mp hz
  rw[<- e];exact ⟨_,Dt.int _ _ _,rfl⟩
 clear hks hda lk k20
 dsimp only
 refine tR ?_
 show Ea _ _ _ _
 refine CV.run (p:=Gx) (l:=l) (n:=9) (.cons (El.var rfl ⟨_,Dt.int _ _ _,rfl⟩) (.cons (El.iv (-1) rfl fun _ _ q=>⟨_,rfl,q⟩) (.cons (El.cb rfl) (.cons (El.cb rfl) (.cons (El.cn rfl) (.cons (El.cs rfl)
  (.cons (El.tup fw hx1 (by decide) (.cons (El.ci rfl) .nil)) (.cons (El.iv (10 ^ 29) rfl fun _ _ q=>⟨_,_,rfl,rfl,⟨by decide,by decide,by decide⟩,q⟩) (.cons (El.ci rfl) .nil))))))))) (by decide) fun X H2 po g2 hpo lX pX=>?_
 have g3:j7 H2 (t6 H2 po (.lst X)):=j7.new hpo
 have hpo3:t6 H2 po (.lst X) po=some (.lst X):=f6
 have s3:=s1.same (g2.trans g3)
 have npo:po≠l:=(v8 (g2 _ _ hx1) hpo).symm
 try dsimp -proj only[N7]
 generalize t6 H2 po (.lst X)=H3 at g3 hpo3 s3
 obtain ⟨_,x3,hx3,ok3⟩:=id s3
 refine ⟨_,rfl,l,9,x3,b,rfl,hx3,ok3,by decide,by decide,fun y x4 hy ok4=>?_⟩
 have s4:=s3.go ok4
 have k4:Kp l H3 (t6 H3 l (.lst [.int x4,.bl b])):=Kp.at
 try dsimp -proj only[N7]
 generalize t6 H3 l (.lst [.int x4,.bl b])=H4 at s4 k4
 have hyX:y<X.length:=by lia
 refine ⟨po,X,_,X[y],rfl,rfl,.of (k4 _ _ npo hpo3),C8 (d9 hyX),?_⟩
 have hod:Pm xf l H4 X[y]:=by
  obtain ⟨d,hd,_⟩:=(Pm.mo _ _ _ g3 (pX _ (F7 hyX))).kp k4
  exact ⟨d,hd,rfl⟩
 generalize X[y]=od at hod
 have hda4:=(((g2.trans g3).kp l).trans k4) _ _ nda hda1
 clear hyX pX hpo3 g2 g3 k4 s3 hx3 hda1 s1 hx1
 have hxd:∃ds,P3 l H4 ds xs:=let ⟨ds,h,_⟩:=mL (p:=xf) (hxa H4);⟨ds,h⟩
 obtain ⟨xd,hxd⟩:=hxd
 obtain ⟨_,x5,hx5,ok5⟩:=id s4
 have nx:∀ys,HO.lst [.int x5,.bl b]≠.tup ys:=fun ys e=>by cases e
 dsimp only
 refine tR ?_
 refine CV.run (p:=Gx) (l:=l) (n:=6)
  (.cons (El.ofT fw hx5 nx (show 20+1+20<=1000 by decide) fun H1 g1=>W9.cat (W9.cat (W9.sl rfl (g1 _ _ hda4) (hxa H1) Pm.mo hxl aA (bD rfl)) (fun H2 g2=>W9.one rfl (Pm.mo _ _ _ (g1.trans g2) hod) Pm.mo) Pm.mo (by decide)) (fun H2 g2=>W9.sl rfl ((g1.trans g2) _ _ hda4) (hxa H2) Pm.mo hxl (fG rfl) aA) Pm.mo (by decide))
  (.cons (El.ofT fw hx5 nx (show 20+1+20<=1000 by decide) fun H1 g1=>W9.cat (W9.cat (W9.sl rfl (g1 _ _ hda4) (hxa H1) Pm.mo hxl aA (bD rfl)) (fun H2 g2=>W9.one rfl (Pm.mo _ _ _ (g1.trans g2) hod) Pm.mo) Pm.mo (by decide)) (fun H2 g2=>W9.sl rfl ((g1.trans g2) _ _ hda4) (hxa H2) Pm.mo hxl (bD rfl) aA) Pm.mo (by decide))
  (.cons (fun H1 g1 Q q=>⟨_,rfl,da,xs,rfl,.inr (.of (g1 _ _ hda4)),fun t ht=>q _ _ (j7.new ht) (Pm.lst (p':=xf) (fun _=>rfl) f6 (v8 (g1 _ _ hx5) ht).symm (hxa _))⟩)
  (.cons (El.cn rfl)
  (.cons (El.tup fw hx5 (by decide) (.cons (El.var rfl (⟨_,Dt.tup nda hda4 hxd,rfl⟩)) .nil))
  (.cons (fun H1 g1 Q q pd hpd=>q _ _ (j7.new hpd) ⟨.dict [],by unfold Dt;exact ⟨pd,_,rfl,(v8 (g1 _ _ hx5) hpd).symm,f6⟩,rfl⟩) .nil)))))) (by decide) fun Y H6 pS g6 hpS lY pY=>?_
 have g7:j7 H6 (t6 H6 pS (.lst Y)):=j7.new hpS
 have hpS7:t6 H6 pS (.lst Y) pS=some (.lst Y):=f6
 try dsimp -proj only[N7]
 generalize t6 H6 pS (.lst Y)=H7 at g7 hpS7
 have g47:=g6.trans g7
 have hda7:=g47 _ _ hda4
 have hx7:=g47 _ _ hx5
 have s7:=s4.same g47
 refine ⟨_,rfl,?_⟩
 refine CV.run (p:=Gx) (l:=l) (n:=2)
  (.cons (El.ofT fw hx7 nx (show 20+21<=1000 by decide) fun H1 g1=>W9.cat (W9.var rfl (g1 _ _ hda7) (hxa _) hxl) (fun H2 g2=>W9.rep (21 - xs.length) (by lia) fun H3 Q g3 q=>⟨_,rfl,da,_,rfl,.inr (.of ((g1.trans (g2.trans g3)) _ _ hda7)),_,_,rfl,rfl,by dsimp only;rw[show (21:Int) - ((xs.length:Nat):Int)=((21 - xs.length:Nat):Int) by lia];exact q⟩) Pm.mo (by decide))
  (.cons (El.ofT fw hx7 nx (show 20+21<=1000 by decide) fun H1 g1=>W9.cat (W9.var rfl (g1 _ _ hda7) (hxa _) hxl) (fun H2 g2=>W9.rep (20 - xs.length) (by lia) fun H3 Q g3 q=>⟨_,rfl,da,_,rfl,.inr (.of ((g1.trans (g2.trans g3)) _ _ hda7)),_,_,rfl,rfl,by dsimp only;rw[show (20:Int) - ((xs.length:Nat):Int)=((20 - xs.length:Nat):Int) by lia];exact q⟩) Pm.mo (by decide)) .nil)) (by decide) fun Z H8 pZ g8 hpZ lZ pZ'=>?_
 have g9:j7 H8 (t6 H8 pZ (.lst Z)):=j7.new hpZ
 have hpZ9:t6 H8 pZ (.lst Z) pZ=some (.lst Z):=f6
 try dsimp -proj only
 generalize t6 H8 pZ (.lst Z)=H9 at g9 hpZ9
 refine ⟨pS,pZ,_,_,rfl,rfl,(g8.trans g9) _ _ hpS7,hpZ9,by rw[lY,lZ];exact sz (by decide),fun pa hpa=>?_⟩
 have hall:∀v∈Y++Z,Pm Gx l H9 v:=fun v hv=>by
  rcases List.mem_append.mp hv with e|e
  ·exact Pm.mo _ _ _ (g7.trans (g8.trans g9)) (pY v e)
  ·exact Pm.mo _ _ _ g9 (pZ' v e)
 have lA:(Y++Z).length=8:=by rw[t8,lY,lZ]
 clear pY pZ'
 generalize Y++Z=A8 at hall lA
 have g10:j7 H9 (t6 H9 pa (.lst A8)):=j7.new hpa
 have hpa10:t6 H9 pa (.lst A8) pa=some (.lst A8):=f6
 have s10:=s7.same (g8.trans (g9.trans g10))
 have npa:pa≠l:=(v8 ((g8.trans g9) _ _ hx7) hpa).symm
 try dsimp -proj only
 generalize t6 H9 pa (.lst A8)=H10 at g10 hpa10 s10
 obtain ⟨_,x10,hx10,ok10⟩:=id s10
 refine ⟨_,rfl,l,8,x10,b,rfl,hx10,ok10,by decide,by decide,fun y2 x11 hy2 ok11=>?_⟩
 have s11:=s10.go ok11
 have k11:Kp l H10 (t6 H10 l (.lst [.int x11,.bl b])):=Kp.at
 try dsimp -proj only
 generalize t6 H10 l (.lst [.int x11,.bl b])=H11 at s11 k11
 have hyA:y2<A8.length:=by lia
 exact ⟨pa,A8,_,A8[y2],rfl,rfl,.of (k11 _ _ npa hpa10),C8 (d9 hyA),q _ H11 s11 ((Pm.mo _ _ _ g10 (hall _ (F7 hyA))).kp k11)⟩
noncomputable def vX:Sp:=fun vs H Q _=>∃(v:V) (st:Addr) (d:A2) (n:Nat),vs=[.int n,v]/\Dt st H d v/\aN d/\∀H',j7 H H'->Q (.bl (aa n d)) H'
noncomputable abbrev Ba:Stmt:=eI 60
theorem GA:C3 ["_law_kinds","_law_thing"] ["_law_kinds","_law_thing"] (v9 Ba):=⟨rfl,rfl,rfl,by decide +kernel,rfl,by decide +kernel,by decide +kernel⟩
theorem Hv (F:aY K "_law_is_draws" "_law_is_draws" Ba f fd) (B:Bt mg) (c1:S2 P w K mg base 1 "_law_whole" ["_law_thing"] cS):M0 P w K mg base cH 2 f fd ["_law_kinds","_law_thing"] vX:=by
 refine F.ok GA (fun vs H Q E h=>?_) (fun cdv A outer s H vs Q E hr h=>?_)
 ·obtain ⟨v,st,d,n,rfl,_⟩:=h
  rfl
 obtain ⟨v,st,d,n,rfl,hd,hsh,q⟩:=h
 refine ⟨_,(@n5 _ _ _ _ _ (R0 (PW.pt (jU (Y3 (V5 (t7 (Q4 dW) rfl B.isinstance A1 (@b7 _ _ _ _ _ (pv 1) (@b7 _ _ _ _ _ (S8 rfl B.tuple E7) d8 (by rfl)) (by rfl))))) (fF (@N6 _ _ _ _ _ _ _ _ xS (t7 B7 rfl B.len A5 (@b7 _ _ _ _ _ (pv 1) d8 (by rfl))) j8 (M5 _))))) (@v5 _ _ _ (C7 Y4)) F6)
  (@v5 _ _ _ (C7 (t7 (Z4 rfl) rfl B.all qX (@b7 _ _ _ _ _ (J9 (N:=["_law_kind","_law_kinds"]) (ix:=[none,some 0]) (ifs:=[]) (tc:=Q2) rfl (jx (pv 1))
   (fun s H ex=>aE (i:=0) (by decide +kernel) rfl (B5 rfl) (.inr rfl)) (fun s H ex=>F9) (fun s H ex=>(cC (B8 c1 hr rfl (@b7 _ _ _ _ _ (pv 0) d8 (by rfl))) (cB (ig ij BD j8 (pv 0) (pv 1))))) rfl (by decide +kernel) (by rfl) (by rfl) (fun _=>rfl)) d8 (by rfl)))))),?_⟩
 refine ⟨_,rfl,v,st,d,rfl,hd,_,rfl,?_⟩
 cases d with
 | tuple ds =>
  obtain ⟨a,xs,e,ne,ha,hds⟩:=hd.untup
  subst e
  have hlen:=hds.len
  have h1000:ds.length<=1000:=hsh _ rfl
  have qb:∀(b:Bool) (H':Hp),j7 H H'->aa n (.tuple ds)=b->Q (.bl b) H':=fun b H' g e=>by rw[<- e];exact q H' g
  refine Q3 ⟨_,rfl,a,xs,rfl,.inr (.of ha),_,_,rfl,rfl,_,rfl,?_⟩
  have dD:aa n (.tuple ds)=(ds.all (N5 0 ((n:Int) - 1))&&decide (ds.length<=20)):=rfl
  rw[<- hlen]
  by_cases h20:(20:Int)<(ds.length:Int)
  ·rw[decide_eq_true h20]
   refine P8 (qb false H (j7.refl H) ?_)
   rw[dD,decide_eq_false (by lia),bJ]
  ·rw[decide_eq_false h20]
   rw[decide_eq_true (show ds.length<=20 by lia),vC] at dD
   refine Q3 ⟨_,rfl,a,rfl,⟨xs,.of ha⟩,?_⟩
   refine kE (K:=K) (a:=a) (xs:=xs) (sz (by lia)) (fun i ys H2=>j7 H H2/\i<=ds.length/\ys=(ds.take i).map fun d=>V.bl (N5 0 ((n:Int) - 1) d)) ⟨j7.refl H,u9 _,rfl⟩ (fun i ys H2 h=>?_) (fun i ys H2 _ h=>.of (h.1 _ _ ha)) rfl (fun i ys H2 x hx h=>?_) (fun ys H2 h=>?_)
   ·obtain ⟨_,hi,rfl⟩:=h
    rw[b9,A4];lia
   ·obtain ⟨hS,hil,rfl⟩:=h
    obtain ⟨d,hd',dt⟩:=hds.get hx
    have fin:j7 H H2/\i+1<=ds.length/\((ds.take i).map fun d=>V.bl (N5 0 ((n:Int) - 1) d))++[V.bl (N5 0 ((n:Int) - 1) d)]=(ds.take (i+1)).map fun d=>V.bl (N5 0 ((n:Int) - 1) d):=⟨hS,(List.getElem?_eq_some_iff.mp hd').1,by rw[C2,hd',n9];rfl⟩
    refine ⟨_,rfl,x,st,d,rfl,dt.kp (hS.kp st),_,rfl,?_⟩
    cases d with
    | int i =>
     refine P8 ?_
     unfold Dt at dt
     subst dt
     refine ⟨_,rfl,0,i,rfl,rfl,_,rfl,?_⟩
     have e:N5 0 ((n:Int) - 1) (.int i)=(decide (0<=i)&&decide (i<=(n:Int) - 1)):=rfl
     rw[e] at fin
     by_cases h1:0<=i
     ·rw[decide_eq_true h1,K6] at fin
      rw[decide_eq_true h1]
      refine P8 ⟨_,rfl,i,n,rfl,rfl,?_⟩
      have e2:decide (i<(n:Int))=decide (i<=(n:Int) - 1):=by
       by_cases h2:i<(n:Int)
       ·rw[decide_eq_true h2,decide_eq_true (by lia)]
       ·rw[decide_eq_false h2,decide_eq_false (by lia)]
      dsimp only
      rw[e2];exact fin
     ·rw[decide_eq_false h1,F8] at fin
      rw[decide_eq_false h1]
      exact Q3 fin
    | _=>exact Q3 fin
   ·obtain ⟨hS,hil,rfl⟩:=h
    intro p hp
    have e:(((ds.take xs.length).map fun d=>V.bl (N5 0 ((n:Int) - 1) d)).all jN)=aa n (.tuple ds):=by
     rw[dD,<- hlen,D8,G5];rfl
    refine ⟨p,_,rfl,.inl (.of f6),(by rw[G5];exact List.all_eq_true.mpr fun _ _=>rfl),?_⟩
    rw[e]
    exact qb _ _ (hS.trans (j7.new hp)) rfl
 | _=>exact P8 (P8 (q H (j7.refl H)))
end
set_option maxHeartbeats 8000000
mutual
theorem Kq {l T:Addr}{H:Hp}{ps:Array d6} (hT:H T=some (.tbl ps)):∀{d:A2}{v:V},Dt l H d v->Dt T H d v
 | .none,_,h=>by unfold Dt at h ⊢;exact h
 | .bool _,_,h=>by unfold Dt at h ⊢;exact h
 | .int _,_,h=>by unfold Dt at h ⊢;exact h
 | .str _,_,h=>by unfold Dt at h ⊢;exact h
 | .tuple ds,_,h=>by
  unfold Dt at h ⊢
  obtain ⟨a,xs,e,n,q,r⟩:=h
  exact ⟨a,xs,e,(fun z=>by rw[z,hT] at q;cases q),q,xl hT r⟩
 | .list ds,_,h=>by
  unfold Dt at h ⊢
  obtain ⟨a,xs,e,n,q,r⟩:=h
  exact ⟨a,xs,e,(fun z=>by rw[z,hT] at q;cases q),q,xl hT r⟩
 | .dict kvs,_,h=>by
  unfold Dt at h ⊢
  obtain ⟨z,a,e,n,q⟩:=h
  exact ⟨z,a,e,(fun z=>by rw[z,hT] at q;cases q),q⟩
theorem xl {l T:Addr}{H:Hp}{ps:Array d6} (hT:H T=some (.tbl ps)):∀{ds:List A2}{xs:List V},P3 l H ds xs->P3 T H ds xs
 | [],_,h=>by unfold P3 at h ⊢;exact h
 | d::ds,_,h=>by
  unfold P3 at h ⊢
  obtain ⟨x,r,e,q1,q2⟩:=h
  exact ⟨x,r,e,Kq hT q1,xl hT q2⟩
end
theorem xj {K:m9}{T a:Addr}{H':Hp}{xs:List V}{ps:Array d6} (hT:H T=some (.tbl ps)) (k:Kp T H H') (h:dC K H a xs):dC K H' a xs:=by
 rcases h with (h|⟨o,h⟩)|h
 ·exact .inl (.inl (k _ _ (fun z=>by rw[z,hT] at h;cases h) h))
 ·exact .inl (.inr ⟨o,k _ _ (fun z=>by rw[z,hT] at h;cases h) h⟩)
 ·exact .inr h
noncomputable abbrev lq:Str:=(("law":Str)++".<locals>.")++"<lambda>"
mutual
theorem ak {l T:Addr}{H H':Hp}{ps:Array d6} (hT:H T=some (.tbl ps)) (k:Kp T H H'):∀{d:A2}{v:V},Dt l H d v->Dt l H' d v
 | .none,_,h=>by unfold Dt at h ⊢;exact h
 | .bool _,_,h=>by unfold Dt at h ⊢;exact h
 | .int _,_,h=>by unfold Dt at h ⊢;exact h
 | .str _,_,h=>by unfold Dt at h ⊢;exact h
 | .tuple ds,_,h=>by
  unfold Dt at h ⊢
  obtain ⟨a,xs,e,n,q,r⟩:=h
  exact ⟨a,xs,e,n,k _ _ (fun z=>by rw[z,hT] at q;cases q) q,oJ hT k r⟩
 | .list ds,_,h=>by
  unfold Dt at h ⊢
  obtain ⟨a,xs,e,n,q,r⟩:=h
  exact ⟨a,xs,e,n,k _ _ (fun z=>by rw[z,hT] at q;cases q) q,oJ hT k r⟩
 | .dict kvs,_,h=>by
  unfold Dt at h ⊢
  obtain ⟨z,a,e,n,q⟩:=h
  exact ⟨z,a,e,n,k _ _ (fun z=>by rw[z,hT] at q;cases q) q⟩
theorem oJ {l T:Addr}{H H':Hp}{ps:Array d6} (hT:H T=some (.tbl ps)) (k:Kp T H H'):∀{ds:List A2}{xs:List V},P3 l H ds xs->P3 l H' ds xs
 | [],_,h=>by unfold P3 at h ⊢;exact h
 | d::ds,_,h=>by
  unfold P3 at h ⊢
  obtain ⟨x,r,e,q1,q2⟩:=h
  exact ⟨x,r,e,ak hT k q1,oJ hT k q2⟩
end
noncomputable def Kj (X:Cx) (params:cq) (body:Expr) (scope:N3) (H:Hp) (f:Addr):Prop:=∃c ctv,H f=some (KN (Ca X params body scope c ctv))/\yH (uz X) H c
section
variable {X:Cx}{params:cq}{body:Expr}{scope:N3}{H H':Hp}{f0 T p:Addr}
theorem sv {σ:L2.St}{Hf:Hp}{N:List Str}{ix:List (Option Nat)}{k:Nat}{c:Nat->Addr}{Q:VK}{o:Option Nat}
  (Zc:vI X) (fz:oG X σ H Hf) (hL:Kj X params body scope H f0) (hfr:az scope X.env=true) (k1:scope.kind=.function) (k2:scope.isCoroutine=false) (k3:scope.isGenerator=false) (k4:∀x∈scope.names,x.2≠.cell) (hx:ip scope X.N N ix=true) (hi:∀i,o=some i->i<10)
  (hba:∀c0 ctv,yP (W.kla_fn "<lambda>" (uz X) params body scope (S1 X.env scope.names []) ((X.mg "__name__").getD .none) (.ref c0) ctv) ⟨[],[]⟩=pure [])
  (hrun:∀(c0:Addr) (A':v7) (outer':List Env) (s':d7) (E1:XK) (Q1:VK),bg k (A'.deeper (mQ (uz X) scope s'.heap.objs.size f0 (.ref c0) (S1 X.env scope.names [])))->j7 H (bc (S1 X.env scope.names []) Hf)->Out c (bc (S1 X.env scope.names []) Hf) Q1 E1 o ->
   ∃t,PE (qC X.prog X.w X.K X.mg X.base N (uz X) scope f0 (.ref c0) (S1 X.env scope.names []) A' outer' s' (bc (S1 X.env scope.names []) Hf) E1) body t/\t (gy ix σ) (bc (S1 X.env scope.names []) Hf) Q1)
  (q:∀H',j7 Hf H'->Q (BB o) H'):fm X.prog X.w X.K X.mg X.base (k+1) c [.ref f0] Hf Q E0:=by
 obtain ⟨c0,ctv,hf0,oc,ovs,ot,hoc,hod1,hod2⟩:=hL
 refine ⟨f0,Jo X.prog X.w X.K X.mg X.base k f0 c0 _ _ _ _ _ _ _ _ N,_,_,o,rfl,fz.same _ _ hf0,rfl,hba c0 ctv,fnL (Zc.lsc hfr k1 k2 k3 k4) (fun _ _ _ _ h=>h),hi,fun Q' E' ho=>?_,q⟩
 refine ⟨rfl,fz.same _ _ hf0,⟨oc,ovs,ot,fz.same _ _ hoc,hod1,hod2⟩,Zc.celk hfr fz,_,Zc.st hfr fz hx,fun A' outer' s' hr'=>?_⟩
 refine hrun c0 A' outer' s' _ _ hr' (fz.inner Zc hfr) ?_
 cases o with
 | none=>exact fun v H'' g=>ho v _ (xV g)
 | some i=>exact fun H'' g=>ho _ (xV g)
end
theorem AM:∀o:Option Nat,(∀i,o=some i->i<10)->Gy (BB o) (BB o)=true
 | none,_=>rfl
 | some 0,_=>rfl
 | some 1,_=>rfl
 | some 2,_=>rfl
 | some 3,_=>rfl
 | some 4,_=>rfl
 | some 5,_=>rfl
 | some 6,_=>rfl
 | some 7,_=>rfl
 | some 8,_=>rfl
 | some 9,_=>rfl
 | some (n+10),h=>absurd (h _ rfl) (by lia)
theorem BU {p r:Addr}{a b:List Int}{Q:VK} (hp:H p=some (.tup (a.map V.int))) (hr:H r=some (.tup (b.map V.int))) (q:Q (.bl (!decide (a=b))) H):GM (.ref p) (.ref r) H Q :=
 EC (l:=p+r+1) (Dt.mkI (w9 (Fi (FZ p r))) hp) (Dt.mkI (w9 (Fi (Nat.le_add_left r p))) hr) q
section
variable {P:j9}{w:t9}{K:m9}{mg:Str->Option d6}{base:Heap}{f:Addr}{fd:C4}
variable {H:Hp}
theorem Jt {st p r:Addr}{zs:List Int}{Q:VK}{E:XK} (np:p≠st) (nr:r≠st) (hl:zs.length<=1000) (hp:H p=some (.tup (zs.map V.int))) (hr:H r=some (.tup (zs.map V.int))) (q:∀H',j7 H H'->Q (.bl true) H'):jR A0 [.ref p,.ref r] H Q E:=by
 refine ⟨DI zs,st,p,r,_,_,rfl,rfl,rfl,Dt.mkI np hp,Dt.mkI nr hr,hp,hr,rfl,by rw[b9];exact hl,fun i x y H' hx hy _=>?_,q⟩
 rw[hx] at hy
 cases hy
 rw[n8] at hx
 obtain ⟨z,_,ez⟩:=Option.map_eq_some_iff.mp hx
 exact ⟨z,ez.symm,ez.symm⟩
theorem Il (n:Nat) (ns:List Int) (rs:List (List Int)) (ks:List Nat):Dx n ns rs ks.reverse=Dx n ns rs ks:=by
 unfold Dx
 congr 1
 unfold P0
 exact Ar fun j _=>List.count_reverse
variable {D:kJ}{σ:L2.St}
theorem qg {t u:TS}{T:Addr}{q:Str} (h1:∀N:L2.St->Hp->Prop,(∀Hx,Kp T H Hx->kK q T Hx->N σ Hx)->t { D with nx:=N } σ H) (h2:∀Hx,Kp T H Hx->kK q T Hx->u D σ Hx):fk t u D σ H:=h1 (u D) h2
theorem ze {t u:TS}(R:L2.St->Hp->Prop) (h1:∀N:L2.St->Hp->Prop,(∀σ' Hx,R σ' Hx->N σ' Hx)->t { D with nx:=N } σ H) (h2:∀σ' Hx,R σ' Hx->u D σ' Hx):fk t u D σ H:=h1 (u D) h2
theorem FE {N:L2.St->Hp->Prop}(h:N σ H):({ D with nx:=N }:kJ).nx σ H:=h
structure Cals (P:j9) (w:t9) (K:m9) (mg:Str->Option d6) (base:Heap) (c:Nat->Addr):Prop where
 state:S2 P w K mg base 10 "_law_state" ["_law_script","_law_k"] (nj K)
 take:S2 P w K mg base 10 "_law_take" ["_law_state_here","_law_many"] aM
 urn:S2 P w K mg base 10 "_law_urn_of" ["_law_state_here","_law_kinds"] rA
 rule:S2 P w K mg base 10 "_law_rule" ["_law_state_here","_law_kinds"] nv
 due:S2 P w K mg base 10 "_law_due" ["_law_urn","_law_rule_here","_law_counts"] vY
 same:S2 P w K mg base 10 "_law_same" ["_law_found","_law_due_here"] (jR A0)
 ao:eZ P w K mg base 10 "any_order" ["urn","rule","draws"] (xB c)
 bu:S2 P w K mg base 10 "_law_bent_urn" ["_law_state_here","_law_urn"] AJ
 br:S2 P w K mg base 10 "_law_bent_rule" ["_law_state_here","_law_rule_here"] AK
 odd:S2 P w K mg base 10 "_law_odd" ["_law_state_here"] vU
 bent:S2 P w K mg base 10 "_law_bent" ["_law_state_here","_law_draws","_law_kinds"] rB
 lisu:S2 P w K mg base 10 "_law_is_urn" ["_law_thing"] cU
 lisr:S2 P w K mg base 10 "_law_is_rule" ["_law_kinds","_law_thing"] gW
 lisd:S2 P w K mg base 10 "_law_is_draws" ["_law_kinds","_law_thing"] vX
 ao8:eZ P w K mg base 8 "any_order" ["urn","rule","draws"] (xB c)
 refused:S2 P w K mg base 10 "_law_refused" ["_law_call"] (fm P w K mg base 9 c)
noncomputable def xC (K:m9) (T:Addr):Sp:=fun vs H Q _=>∃(a:Addr) (ns:List Int),vs=[.ref a]/\dC K H a (ns.map V.int)/\ns.length<=63/\kK lq T H/\∀H',Q (.bl true) H'
noncomputable abbrev nJ:Stmt:=eI 61
theorem bB:C3 ["_law_script","_law_k","_law_state_here","_law_kinds","_law_urn","_law_rule_here","_law_many","_law_draws","_law_due_here","_law_some","_law_bent_here","_law_bad","_law_lost"] ["_law_script"] (v9 nJ):=⟨rfl,rfl,rfl,by decide +kernel,rfl,by decide +kernel,by decide +kernel⟩
theorem Hu {c:Nat->Addr}{T:Addr} (F:aY K "law" "law" nJ f fd) (B:Bt mg) (C:Cals P w K mg base c) (hcode:∃cc,fd.code=.ref cc/\jm K cc T=true) (hKb:K.In base) (hbm:base.BuiltinsAt mg T):M0 P w K mg base cH 11 f fd ["_law_script"] (xC K T):=by
 obtain ⟨cc,hcc,hcd⟩:=hcode
 refine F.okC bB (fun vs H Q E h=>?_) (fun cdv A outer s H vs Q E hcv hr h=>?_)
 ·obtain ⟨a,ns,rfl,_⟩:=h
  rfl
 obtain ⟨a,scr,rfl,hS,h63,hCT,q⟩:=h
 have Z:∀(X:Cx),X.env.code=cdv->X.base=base->X.mg=mg->Ki X T:=fun X e1 e2 e3=>⟨⟨cc,by rw[e1,<- hcv,hcc],by rw[e2];exact W.codeHd_of_K hKb hcd⟩,by rw[e2,e3];exact hbm⟩
 refine ⟨_,(@n5 _ _ _ _ _ (R0 (PW.pt (jU (@N6 _ _ _ _ _ _ _ _ (BC hr.units) (aj C.ao hr rfl wA (@b7 _ _ _ _ _ (@D0 _ _ _ _ _ (@b7 _ _ _ _ _ j8 (@b7 _ _ _ _ _ j8 d8 (by rfl)) (by rfl))) (@b7 _ _ _ _ _ (@D0 _ _ _ _ _ (@b7 _ _ _ _ _ (@D0 _ _ _ _ _ (@b7 _ _ _ _ _ j8 (@b7 _ _ _ _ _ j8 d8 (by rfl)) (by rfl))) (@b7 _ _ _ _ _ (@D0 _ _ _ _ _ (@b7 _ _ _ _ _ j8 (@b7 _ _ _ _ _ j8 d8 (by rfl)) (by rfl))) d8 (by rfl)) (by rfl))) (@b7 _ _ _ _ _ (@D0 _ _ _ _ _ (@b7 _ _ _ _ _ j8 (@b7 _ _ _ _ _ j8 d8 (by rfl)) (by rfl))) d8 (by rfl)) (by rfl)) (by rfl))) (@D0 _ _ _ _ _ (@b7 _ _ _ _ _ j8 (@b7 _ _ _ _ _ j8 d8 (by rfl)) (by rfl))) (M5 _)) (fF (@N6 _ _ _ _ _ _ _ _ (BC hr.units) (aj C.ao hr rfl wA (@b7 _ _ _ _ _ (@D0 _ _ _ _ _ (@b7 _ _ _ _ _ j8 (@b7 _ _ _ _ _ j8 d8 (by rfl)) (by rfl))) (@b7 _ _ _ _ _ (@D0 _ _ _ _ _ (@b7 _ _ _ _ _ (@D0 _ _ _ _ _ (@b7 _ _ _ _ _ j8 (@b7 _ _ _ _ _ j8 d8 (by rfl)) (by rfl))) (@b7 _ _ _ _ _ (@D0 _ _ _ _ _ (@b7 _ _ _ _ _ j8 (@b7 _ _ _ _ _ j8 d8 (by rfl)) (by rfl))) d8 (by rfl)) (by rfl))) (@b7 _ _ _ _ _ (@D0 _ _ _ _ _ (@b7 _ _ _ _ _ j8 d8 (by rfl))) d8 (by rfl)) (by rfl)) (by rfl))) (@D0 _ _ _ _ _ (@b7 _ _ _ _ _ j8 (@b7 _ _ _ _ _ j8 d8 (by rfl)) (by rfl))) (M5 _))))) (@v5 _ _ _ (C7 Y4)) F6)
  (@n5 _ _ _ _ _ (eh K1 rfl (K3 rfl B.range (@b7 _ _ _ _ _ (t7 (zR rfl) rfl B.max boot_max (@b7 _ _ _ _ _ j8 (@b7 _ _ _ _ _ (t7 (zQ rfl) rfl B.min boot_min (@b7 _ _ _ _ _ (t7 B7 rfl B.len A5 (@b7 _ _ _ _ _ (pv 0) d8 (by rfl))) (@b7 _ _ _ _ _ j8 d8 (by rfl)) (by rfl))) d8 (by rfl)) (by rfl))) d8 (by rfl))) (U0 (i:=1) bB.nd rfl (B5 rfl))
  (@n5 _ _ _ _ _ (@D6 _ _ 2 _ _ _ _ bB.nd rfl (Z7 rfl) (B8 C.state hr rfl (@b7 _ _ _ _ _ (pv 0) (@b7 _ _ _ _ _ (pv 1) d8 (by rfl)) (by rfl))) (by rfl) (by first|exact .inl rfl|exact .inr rfl))
  (@n5 _ _ _ _ _ (@D6 _ _ 3 _ _ _ _ bB.nd rfl (Z7 rfl) (@A7 _ _ _ _ _ _ _ _ P7 j8 (B8 C.take hr rfl (@b7 _ _ _ _ _ (pv 2) (@b7 _ _ _ _ _ j8 d8 (by rfl)) (by rfl)))) (by rfl) (by first|exact .inl rfl|exact .inr rfl))
  (@n5 _ _ _ _ _ (kZ (@D0 _ _ _ _ _ (@b7 _ _ _ _ _ (B8 C.urn hr rfl (@b7 _ _ _ _ _ (pv 2) (@b7 _ _ _ _ _ (pv 3) d8 (by rfl)) (by rfl))) (@b7 _ _ _ _ _ (B8 C.rule hr rfl (@b7 _ _ _ _ _ (pv 2) (@b7 _ _ _ _ _ (pv 3) d8 (by rfl)) (by rfl))) d8 (by rfl)) (by rfl))) (rW rfl (S4 (U0 (i:=4) bB.nd rfl (Z7 rfl)) (S4 (U0 (i:=5) bB.nd rfl (Z7 rfl)) fH))))
  (@n5 _ _ _ _ _ (@D6 _ _ 6 _ _ _ _ bB.nd rfl (B5 rfl) (B8 C.take hr rfl (@b7 _ _ _ _ _ (pv 2) (@b7 _ _ _ _ _ (@G1 _ _ _ _ _ _ _ O7 (@N1 _ _ _ _ (@b7 _ _ _ _ _ j8 (@b7 _ _ _ _ _ j8 d8 (by rfl)) (by rfl))) (E6 cX rfl B.int jl (@b7 _ _ _ _ _ (cN ik (pv 1) j8 (M5 _)) d8 (by rfl))) (fun _ _=>rfl)) d8 (by rfl)) (by rfl))) (by rfl) (by first|exact .inl rfl|exact .inr rfl))
  (@n5 _ _ _ _ _ (@D6 _ _ 7 _ _ _ _ bB.nd rfl (Z7 rfl) (E6 K2 rfl B.tuple E7 (@b7 _ _ _ _ _ (J9 (N:=["_law_turn","_law_state_here","_law_kinds"]) (ix:=[none,some 2,some 3]) (ifs:=[]) (tc:=Q2) rfl (K3 rfl B.range (@b7 _ _ _ _ _ (pv 6) d8 (by rfl)))
   (fun s H ex=>aE (i:=0) (by decide +kernel) rfl (B5 rfl) (.inr rfl)) (fun s H ex=>F9) (fun s H ex=>(B8 C.take hr rfl (@b7 _ _ _ _ _ (pv 1) (@b7 _ _ _ _ _ (pv 2) d8 (by rfl)) (by rfl)))) rfl (by decide +kernel) (by rfl) (by rfl) (fun _=>rfl)) d8 (by rfl))) (by rfl) (by first|exact .inl rfl|exact .inr rfl))
  (@n5 _ _ _ _ _ (@D6 _ _ 8 _ _ _ _ bB.nd rfl (B5 rfl) (B8 C.due hr rfl (@b7 _ _ _ _ _ (pv 4) (@b7 _ _ _ _ _ (pv 5) (@b7 _ _ _ _ _ (E6 K2 rfl B.tuple E7 (@b7 _ _ _ _ _ (J9 (N:=["_law_kind","_law_draws"]) (ix:=[none,some 7]) (ifs:=[]) (tc:=Q2) rfl (K3 rfl B.range (@b7 _ _ _ _ _ (pv 3) d8 (by rfl)))
   (fun s H ex=>aE (i:=0) (by decide +kernel) rfl (B5 rfl) (.inr rfl)) (fun s H ex=>F9) (fun s H ex=>(BA rf qZ (JY (K:=K) rfl) (pv 1) (@b7 _ _ _ _ _ (pv 0) d8 (by rfl)))) rfl (by decide +kernel) (by rfl) (by rfl) (fun _=>rfl)) d8 (by rfl))) d8 (by rfl)) (by rfl)) (by rfl))) (by rfl) (by first|exact .inl rfl|exact .inr rfl))
  (@n5 _ _ _ _ _ (eh K1 rfl (jV (@N1 _ _ _ _ (@b7 _ _ _ _ _ (pv 7) (@b7 _ _ _ _ _ (Ek (pv 7) (Bw vO j8)) d8 (by rfl)) (by rfl)))) (U0 (i:=9) bB.nd rfl (B5 rfl))
  (@v5 _ _ _ (R0 (Y3 (V5 (B8 C.same hr rfl (@b7 _ _ _ _ _ (aj C.ao hr rfl wA (@b7 _ _ _ _ _ (pv 4) (@b7 _ _ _ _ _ (pv 5) (@b7 _ _ _ _ _ (pv 9) d8 (by rfl)) (by rfl)) (by rfl))) (@b7 _ _ _ _ _ (pv 8) d8 (by rfl)) (by rfl))))) (@v5 _ _ _ (C7 Y4)) F6)))
  (@n5 _ _ _ _ _ (kZ (@D0 _ _ _ _ _ (@b7 _ _ _ _ _ (@G1 _ _ _ _ _ _ _ O7 (@N1 _ _ _ _ (@b7 _ _ _ _ _ (B8 C.bu hr rfl (@b7 _ _ _ _ _ (pv 2) (@b7 _ _ _ _ _ (pv 4) d8 (by rfl)) (by rfl))) (@b7 _ _ _ _ _ (B8 C.odd hr rfl (@b7 _ _ _ _ _ (pv 2) d8 (by rfl))) d8 (by rfl)) (by rfl))) (B8 C.take hr rfl (@b7 _ _ _ _ _ (pv 2) (@b7 _ _ _ _ _ j8 d8 (by rfl)) (by rfl))) (fun _ _=>rfl)) (@b7 _ _ _ _ _ (B8 C.br hr rfl (@b7 _ _ _ _ _ (pv 2) (@b7 _ _ _ _ _ (pv 5) d8 (by rfl)) (by rfl))) d8 (by rfl)) (by rfl))) (rW rfl (S4 (U0 (i:=10) bB.nd rfl (Z7 rfl)) (S4 (U0 (i:=11) bB.nd rfl (Z7 rfl)) fH))))
  (@n5 _ _ _ _ _ (@D6 _ _ 12 _ _ _ _ bB.nd rfl (Z7 rfl) (B8 C.bent hr rfl (@b7 _ _ _ _ _ (pv 2) (@b7 _ _ _ _ _ (pv 7) (@b7 _ _ _ _ _ (pv 3) d8 (by rfl)) (by rfl)) (by rfl))) (by rfl) (by first|exact .inl rfl|exact .inr rfl))
  (@n5 _ _ _ _ _ (R0 (PW.pt (Bi (Y3 (V5 (B8 C.lisu hr rfl (@b7 _ _ _ _ _ (pv 10) d8 (by rfl))))) (xK (@N6 _ _ _ _ _ _ _ _ jg (nR C.refused hr rfl (@b7 _ _ _ _ _ (lh (Z _ rfl rfl rfl)) d8 (by rfl))) ie (M5 _))))) (@v5 _ _ _ (C7 Y4)) F6)
  (@n5 _ _ _ _ _ (R0 (PW.pt (Bi (Y3 (V5 (B8 C.lisr hr rfl (@b7 _ _ _ _ _ (pv 3) (@b7 _ _ _ _ _ (pv 11) d8 (by rfl)) (by rfl))))) (xK (@N6 _ _ _ _ _ _ _ _ jg (nR C.refused hr rfl (@b7 _ _ _ _ _ (lh (Z _ rfl rfl rfl)) d8 (by rfl))) ie (M5 _))))) (@v5 _ _ _ (C7 Y4)) F6)
  (@v5 _ _ _ (R0 (@N6 _ _ _ _ _ _ _ _ jg (nR C.refused hr rfl (@b7 _ _ _ _ _ (lh (Z _ rfl rfl rfl)) d8 (by rfl))) (@G1 _ _ _ _ _ _ _ O7 (@N1 _ _ _ _ (@b7 _ _ _ _ _ fI (@b7 _ _ _ _ _ ie d8 (by rfl)) (by rfl))) (E6 cX rfl B.int jl (@b7 _ _ _ _ _ (wz (B8 C.lisd hr rfl (@b7 _ _ _ _ _ (pv 3) (@b7 _ _ _ _ _ (pv 12) d8 (by rfl)) (by rfl)))) d8 (by rfl))) (fun _ _=>rfl)) (M5 _)) (@v5 _ _ _ (C7 Y4)) F6))))))))))))))
  (@v5 _ _ _ (C7 Y4)))),?_⟩
 obtain ⟨ps0,hT0,_⟩:=id hCT
 refine ⟨(by show 2<=i7;decide),fun p1 hnp1=>⟨(by show 2<=i7;decide),fun p2 hnp2=>⟨(by show 2<=i7;decide),fun p3 hnp3=>⟨(by show 2<=i7;decide),fun p4 hnp4=>⟨(by show 2<=i7;decide),fun p5 hnp5=>?_⟩⟩⟩⟩⟩
 have gp1:j7 H (t6 H p1 (.tup [.int 1,.int 1])):=j7.new hnp1
 have hp1:t6 H p1 (.tup [.int 1,.int 1]) p1=some (.tup [.int 1,.int 1]):=f6
 generalize t6 H p1 (.tup [.int 1,.int 1])=Jp1 at gp1 hp1 hnp2 hnp3 hnp4 hnp5
 have gp2:j7 Jp1 (t6 Jp1 p2 (.tup [.int 1,.int 0])):=j7.new hnp2
 have hp2:t6 Jp1 p2 (.tup [.int 1,.int 0]) p2=some (.tup [.int 1,.int 0]):=f6
 generalize t6 Jp1 p2 (.tup [.int 1,.int 0])=Jp2 at gp2 hp2 hnp3 hnp4 hnp5
 have gp3:j7 Jp2 (t6 Jp2 p3 (.tup [.int 0,.int 1])):=j7.new hnp3
 have hp3:t6 Jp2 p3 (.tup [.int 0,.int 1]) p3=some (.tup [.int 0,.int 1]):=f6
 generalize t6 Jp2 p3 (.tup [.int 0,.int 1])=Jp3 at gp3 hp3 hnp4 hnp5
 have gp4:j7 Jp3 (t6 Jp3 p4 (.tup [.ref p2,.ref p3])):=j7.new hnp4
 have hp4:t6 Jp3 p4 (.tup [.ref p2,.ref p3]) p4=some (.tup [.ref p2,.ref p3]):=f6
 generalize t6 Jp3 p4 (.tup [.ref p2,.ref p3])=Jp4 at gp4 hp4 hnp5
 have gp5:j7 Jp4 (t6 Jp4 p5 (.tup [.int 0,.int 1])):=j7.new hnp5
 have hp5:t6 Jp4 p5 (.tup [.int 0,.int 1]) p5=some (.tup [.int 0,.int 1]):=f6
 generalize t6 Jp4 p5 (.tup [.int 0,.int 1])=Jp5 at gp5 hp5
 have ep1:=((((gp2).trans gp3).trans gp4).trans gp5) _ _ hp1
 have ep2:=(((gp3).trans gp4).trans gp5) _ _ hp2
 have ep3:=((gp4).trans gp5) _ _ hp3
 have ep4:=(gp5) _ _ hp4
 have ep5:=(j7.refl _) _ _ hp5
 have ggp5:j7 H Jp5:=((((gp1).trans gp2).trans gp3).trans gp4).trans gp5
 have hTe:=(ggp5) _ _ hT0
 have np1:p1≠T:=fun e=>by rw[e] at ep1;rw[hTe] at ep1;cases ep1
 have np2:p2≠T:=fun e=>by rw[e] at ep2;rw[hTe] at ep2;cases ep2
 have np3:p3≠T:=fun e=>by rw[e] at ep3;rw[hTe] at ep3;cases ep3
 have np4:p4≠T:=fun e=>by rw[e] at ep4;rw[hTe] at ep4;cases ep4
 have np5:p5≠T:=fun e=>by rw[e] at ep5;rw[hTe] at ep5;cases ep5
 have hRp:Mt.ma 2 5 [[1,0],[0,1]]:=⟨rfl,fun r hr=>by
  simp only[C1,C0,or_false] at hr
  rcases hr with rfl|rfl
  ·exact ⟨rfl,by decide⟩
  ·exact ⟨rfl,by decide⟩⟩
 have hUp:Mt.mv 2 20 [1,1]:=⟨rfl,by decide,by decide⟩
 refine .inr ⟨T,p1,p5,.ref p4,2,[1,1],[[1,0],[0,1]],[0,1],rfl,⟨Dt.mkI np1 ep1,hUp,Dt.tup np4 ep4 (P3.cons (Dt.mkI (ns:=[1,0]) np2 ep2) (P3.cons (Dt.mkI (ns:=[0,1]) np3 ep3) (P3.nil _ _))),hRp,by decide,by decide⟩,Dt.mkI (ns:=cI [0,1]) np5 ep5,by decide,by decide,fun rp Hz gp hrp=>?_⟩
 rw[show fr (Dx 2 [1,1] [[1,0],[0,1]] [0,1])=[1,3] from by decide +kernel] at hrp
 refine ⟨(by show 2<=i7;decide),fun p6 hnp6=>?_⟩
 have gp6:j7 Hz (t6 Hz p6 (.tup [.int 1,.int 3])):=j7.new hnp6
 refine BU (a:=[1,3]) (b:=[1,3]) (gp6 _ _ hrp) f6 ⟨_,rfl,?_⟩
 rw[decide_eq_true rfl]
 refine Q3 ?_
 generalize t6 Hz p6 (.tup [.int 1,.int 3])=Hz' at gp6
 have gT1:j7 H Hz':=((ggp5.trans gp).trans gp6)
 clear hTe np1 np2 np3 np4 np5 ep1 ep2 ep3 ep4 ep5 hrp
 refine ⟨(by show 2<=i7;decide),fun a1 hna1=>⟨(by show 2<=i7;decide),fun a2 hna2=>⟨(by show 2<=i7;decide),fun a3 hna3=>⟨(by show 2<=i7;decide),fun a4 hna4=>⟨(by show 1<=i7;decide),fun a5 hna5=>?_⟩⟩⟩⟩⟩
 have ga1:j7 Hz' (t6 Hz' a1 (.tup [.int 2,.int 0])):=j7.new hna1
 have ha1:t6 Hz' a1 (.tup [.int 2,.int 0]) a1=some (.tup [.int 2,.int 0]):=f6
 generalize t6 Hz' a1 (.tup [.int 2,.int 0])=Ja1 at ga1 ha1 hna2 hna3 hna4 hna5
 have ga2:j7 Ja1 (t6 Ja1 a2 (.tup [.int 0,.int 0])):=j7.new hna2
 have ha2:t6 Ja1 a2 (.tup [.int 0,.int 0]) a2=some (.tup [.int 0,.int 0]):=f6
 generalize t6 Ja1 a2 (.tup [.int 0,.int 0])=Ja2 at ga2 ha2 hna3 hna4 hna5
 have ga3:j7 Ja2 (t6 Ja2 a3 (.tup [.int 0,.int 0])):=j7.new hna3
 have ha3:t6 Ja2 a3 (.tup [.int 0,.int 0]) a3=some (.tup [.int 0,.int 0]):=f6
 generalize t6 Ja2 a3 (.tup [.int 0,.int 0])=Ja3 at ga3 ha3 hna4 hna5
 have ga4:j7 Ja3 (t6 Ja3 a4 (.tup [.ref a2,.ref a3])):=j7.new hna4
 have ha4:t6 Ja3 a4 (.tup [.ref a2,.ref a3]) a4=some (.tup [.ref a2,.ref a3]):=f6
 generalize t6 Ja3 a4 (.tup [.ref a2,.ref a3])=Ja4 at ga4 ha4 hna5
 have ga5:j7 Ja4 (t6 Ja4 a5 (.tup [.int 1])):=j7.new hna5
 have ha5:t6 Ja4 a5 (.tup [.int 1]) a5=some (.tup [.int 1]):=f6
 generalize t6 Ja4 a5 (.tup [.int 1])=Ja5 at ga5 ha5
 have ea1:=((((ga2).trans ga3).trans ga4).trans ga5) _ _ ha1
 have ea2:=(((ga3).trans ga4).trans ga5) _ _ ha2
 have ea3:=((ga4).trans ga5) _ _ ha3
 have ea4:=(ga5) _ _ ha4
 have ea5:=(j7.refl _) _ _ ha5
 have gga5:j7 Hz' Ja5:=((((ga1).trans ga2).trans ga3).trans ga4).trans ga5
 have hTe:=(gT1.trans gga5) _ _ hT0
 have na1:a1≠T:=fun e=>by rw[e] at ea1;rw[hTe] at ea1;cases ea1
 have na2:a2≠T:=fun e=>by rw[e] at ea2;rw[hTe] at ea2;cases ea2
 have na3:a3≠T:=fun e=>by rw[e] at ea3;rw[hTe] at ea3;cases ea3
 have na4:a4≠T:=fun e=>by rw[e] at ea4;rw[hTe] at ea4;cases ea4
 have na5:a5≠T:=fun e=>by rw[e] at ea5;rw[hTe] at ea5;cases ea5
 have hRa:Mt.ma 2 5 [[0,0],[0,0]]:=⟨rfl,fun r hr=>by
  simp only[C1,C0,or_false] at hr
  rcases hr with rfl|rfl
  ·exact ⟨rfl,by decide⟩
  ·exact ⟨rfl,by decide⟩⟩
 have hUa:Mt.mv 2 20 [2,0]:=⟨rfl,by decide,by decide⟩
 refine .inr ⟨T,a1,a5,.ref a4,2,[2,0],[[0,0],[0,0]],[1],rfl,⟨Dt.mkI na1 ea1,hUa,Dt.tup na4 ea4 (P3.cons (Dt.mkI (ns:=[0,0]) na2 ea2) (P3.cons (Dt.mkI (ns:=[0,0]) na3 ea3) (P3.nil _ _))),hRa,by decide,by decide⟩,Dt.mkI (ns:=cI [1]) na5 ea5,by decide,by decide,fun ra Hy ga hra=>?_⟩
 rw[show fr (Dx 2 [2,0] [[0,0],[0,0]] [1])=[0,1] from by decide +kernel] at hra
 refine ⟨(by show 2<=i7;decide),fun a6 hna6=>?_⟩
 have ga6:j7 Hy (t6 Hy a6 (.tup [.int 0,.int 1])):=j7.new hna6
 refine BU (a:=[0,1]) (b:=[0,1]) (ga6 _ _ hra) f6 ⟨_,rfl,?_⟩
 rw[decide_eq_true rfl]
 refine Q3 ?_
 generalize t6 Hy a6 (.tup [.int 0,.int 1])=Hy' at ga6
 have gTot:j7 H Hy':=gT1.trans ((gga5.trans ga).trans ga6)
 clear hTe na1 na2 na3 na4 na5 ea1 ea2 ea3 ea4 ea5 hra gT1
 have hS0:dC K Hy' a (scr.map V.int):=by
  rcases hS with (h|⟨o,h⟩)|h
  ·exact .inl (.inl (gTot _ _ h))
  ·exact .inl (.inr ⟨o,gTot _ _ h⟩)
  ·exact .inr h
 have hCT0:=hCT.same gTot
 show fk _ _ _ _ Hy'
 refine ⟨_,rfl,a,_,rfl,.inl hS0,_,_,rfl,_,_,rfl,_,rfl,?_,?_,?_⟩
 ·split <;> split <;> lia
 ·rw[b9];split <;> split <;> lia
 refine iP (lo:=0) (fun i σ H2=>dC K H2 a (scr.map V.int)/\kK lq T H2/\∃o1 o2 o3 o4 o5 o6 o7 o8 o9 oa ob oc,σ=[some (.ref a),o1,o2,o3,o4,o5,o6,o7,o8,o9,oa,ob,oc])
  ⟨hS0,hCT0,none,none,none,none,none,none,none,none,none,none,none,none,rfl⟩ (fun i σ H2 hi h=>?_) (fun σ H2 h=>q _)
 clear hS0 hCT0 gTot
 obtain ⟨hS2,hCT2,o1,o2,o3,o4,o5,o6,o7,o8,o9,oa,ob,oc,rfl⟩:=h
 have e0:(0:Int)+(i:Int)=(i:Int):=by lia
 rw[e0]
 refine ⟨_,rfl,_,rfl,a,scr,i,rfl,hS2,fun l x b hl hst=>?_⟩
 have s3:Y0 l b (t6 H2 l (.lst [.int x,.bl b])) (t6 H2 l (.lst [.int x,.bl b])):=Y0.start f6 hst
 have hCT3:kK lq T (t6 H2 l (.lst [.int x,.bl b])):=hCT2.same (j7.new hl)
 have hA:∀H',Kp l (t6 H2 l (.lst [.int x,.bl b])) H'->dC K H' a (scr.map V.int):=fun H' k=>by
  rcases hS2 with (h|⟨o,h⟩)|h
  ·exact .inl (.inl (k _ _ (v8 h hl) (j7.new hl _ _ h)))
  ·exact .inl (.inr ⟨o,k _ _ (v8 h hl) (j7.new hl _ _ h)⟩)
  ·exact .inr h
 show fk _ _ _ _ (t6 H2 l (.lst [.int x,.bl b]))
 generalize t6 H2 l (.lst [.int x,.bl b])=H3 at s3 hCT3 hA
 clear hS2 hCT2 hl hst
 obtain ⟨_,x3,hx3,ok3⟩:=id s3
 refine ⟨_,rfl,l,4,x3,b,rfl,hx3,ok3,by decide,by decide,fun y x1 hy ok1=>⟨_,_,rfl,rfl,?_⟩⟩
 have en:(1:Int)+(y:Int)=((1+y:Nat):Int):=by lia
 try dsimp only
 rw[en]
 have n1:1<=1+y:=by lia
 have n4:1+y<=4:=by lia
 generalize 1+y=n at n1 n4
 have s4:=s3.go ok1
 generalize t6 H3 l (.lst [.int x1,.bl b])=H4 at s4
 obtain ⟨_,x4,hx4,ok4⟩:=id s4
 refine ⟨_,rfl,_,rfl,l,n,x4,b,rfl,hx4,ok4,n1,n4,fun ua H5 ns s5' hua hU=>?_⟩
 have s5:=s4.trans s5'
 have nua:=s5.neL hua
 obtain ⟨_,x5,hx5,ok5⟩:=id s5
 refine ⟨_,rfl,_,rfl,l,n,x5,b,rfl,hx5,ok5,n1,n4,fun rv H6 rs s6' hrd hR=>⟨(by show 2<=i7;decide),fun pw hpw=>⟨pw,_,rfl,.of f6,rfl,_,_,rfl,_,_,rfl,rfl,?_⟩⟩⟩
 have g6:j7 H6 (t6 H6 pw (.tup [.ref ua,rv])):=j7.new hpw
 have s6:=(s5.trans s6').same g6
 have hua6:=g6 _ _ (s6'.1 _ _ nua hua)
 have hrd6:=hrd.kp (g6.kp l)
 try dsimp -proj only[N7]
 generalize t6 H6 pw (.tup [.ref ua,rv])=HQ at g6 s6 hua6 hrd6
 clear hua hrd g6 s5 s4 s6' s5'
 refine ⟨_,rfl,(by show 2<=i7;decide),fun pd hpd=>?_⟩
 have g7:j7 HQ (t6 HQ pd (.lst [.int 8,.int 21])):=j7.new hpd
 have s7:=s6.same g7
 have hpd7:t6 HQ pd (.lst [.int 8,.int 21]) pd=some (.lst [.int 8,.int 21]):=f6
 try dsimp -proj only[N7]
 generalize t6 HQ pd (.lst [.int 8,.int 21])=H7 at s7 g7 hpd7
 obtain ⟨_,x7,hx7,ok7⟩:=id s7
 obtain ⟨md,hmd,m1,m2⟩:∃m:Int,EV ([.int 8,.int 21]:List V) (if decide (V.int (i:Int)=V.int 0)=true then 1 else 0)=some (.int m)/\1<=m/\m<=21:=by
  split
  ·exact ⟨21,rfl,by decide,by decide⟩
  ·exact ⟨8,rfl,by decide,by decide⟩
 refine ⟨_,rfl,rfl,.inr ⟨_,rfl,pd,_,_,_,rfl,rfl,.of hpd7,hmd,l,md,x7,b,rfl,hx7,ok7,m1,by lia,fun k x8 hk ok8=>?_⟩⟩
 have k20:k<=20:=by lia
 have s8:=s7.go ok8
 have k8:Kp l H7 (t6 H7 l (.lst [.int x8,.bl b])):=Kp.at
 try dsimp -proj only[N7]
 generalize t6 H7 l (.lst [.int x8,.bl b])=H8 at s8 k8
 have hua8:=k8 _ _ nua (g7 _ _ hua6)
 have hrd8:=(hrd6.kp (g7.kp l)).kp k8
 clear hpd7 hpd g7 k8 hx7 ok7 s7 s6 hua6 hrd6
 have nl4:ns.length=n:=hU.len
 have rl4:=hR.len
 have lo62:-(2 ^ 62)<=((n:Nat):Int):=by lia
 have hi62:((n:Nat):Int)<2 ^ 62:=by lia
 obtain ⟨_,xD,hxD,okD⟩:=id s8
 refine ⟨_,rfl,(k:Int),rfl,by lia,by lia,?_⟩
 refine O4 (lo:=0) (n:=k) (sz (by lia)) (fun i ys HE=>Y0 l b H8 HE/\∃ds:List Nat,ys=(cI ds).map V.int/\ds.length=i/\∀z∈ds,z<n)
  ⟨Y0.start hxD okD,[],rfl,rfl,by simp⟩ (fun i ys HE h=>?_) rfl (fun i ys HE hi h=>?_) (fun ys HE h=>?_)
 ·obtain ⟨_,ds,rfl,hn,_⟩:=h
  rw[b9,W8];exact hn
 ·obtain ⟨sE,ds,rfl,hn,hb⟩:=h
  obtain ⟨_,xE,hxE,okE⟩:=id sE
  refine ⟨_,rfl,_,rfl,l,n,xE,b,rfl,hxE,okE,by lia,by lia,fun y x4 hy ok4=>?_⟩
  refine ⟨sE.go ok4,ds++[y],?_,by rw[t8,hn];rfl,fun z hz=>?_⟩
  ·unfold cI
   rw[n9,n9];rfl
  ·rcases List.mem_append.mp hz with h|h
   ·exact hb z h
   ·rw[List.mem_singleton.mp h];lia
 obtain ⟨sE,ds,rfl,hdl,hdb⟩:=h
 intro pz hpz
 have gz:j7 HE (t6 HE pz (.lst ((cI ds).map V.int))):=j7.new hpz
 have hz:t6 HE pz (.lst ((cI ds).map V.int)) pz=some (.lst ((cI ds).map V.int)):=f6
 try dsimp -proj only[N7]
 generalize t6 HE pz (.lst ((cI ds).map V.int))=HZ at gz hz
 refine ⟨pz,_,rfl,.inl ⟨.of hz,fun dt hdt=>?_⟩⟩
 have g9:j7 HZ (t6 HZ dt (.tup ((cI ds).map V.int))):=j7.new hdt
 have hT9:t6 HZ dt (.tup ((cI ds).map V.int)) dt=some (.tup ((cI ds).map V.int)):=f6
 have s9:=(s8.trans sE).same (gz.trans g9)
 have hua9:=(gz.trans g9) _ _ (sE.1 _ _ nua hua8)
 have hrd9:=(hrd8.kp sE.1).kp ((gz.trans g9).kp l)
 try dsimp -proj only[N7]
 generalize t6 HZ dt (.tup ((cI ds).map V.int))=H9 at g9 hT9 s9 hua9 hrd9
 have ndt:=s9.neL hT9
 have hdl20:ds.length<=20:=by lia
 clear hz gz hpz hdt sE s8 hua8 hrd8 g9
 have gl:(cI (P0 n ds)).length=n:=by rw[W8,aO]
 refine ⟨_,rfl,_,rfl,_,rfl,(n:Int),rfl,lo62,hi62,?_⟩
 refine O4 (lo:=0) (n:=n) (sz (by lia)) (fun i ys HE=>j7 H9 HE/\i<=n/\ys=((cI (P0 n ds)).take i).map V.int) ⟨j7.refl _,u9 _,rfl⟩ (fun i ys HE h=>?_) rfl (fun i ys HE hi h=>?_) (fun ys HE h=>?_)
 ·obtain ⟨_,hi,rfl⟩:=h
  rw[b9,A4,gl];lia
 ·obtain ⟨g3,hin,rfl⟩:=h
  have e0:(0:Int)+(i:Int)=(i:Int):=by lia
  rw[e0]
  have hT3:=g3 _ _ hT9
  refine ⟨_,rfl,⟨dt,_,rfl,hT3⟩,_,rfl,dt,cI ds,(i:Int),rfl,rfl,.of hT3,g3,by lia,?_⟩
  have eg:(cI (P0 n ds))[i]?=some ((ds.count i:Nat):Int):=by
   unfold cI P0
   rw[n8,n8,M6 hi];rfl
  rw[C2,eg,n9,uU];rfl
 obtain ⟨g3,_,rfl⟩:=h
 intro pl hpl
 rw[show (cI (P0 n ds)).take n=cI (P0 n ds) from R5 (by lia)]
 refine ⟨pl,_,rfl,.inl ⟨.of f6,fun ga hga=>?_⟩⟩
 have g4:j7 HE (t6 (t6 HE pl (.lst ((cI (P0 n ds)).map V.int))) ga (.tup ((cI (P0 n ds)).map V.int))):=(j7.new hpl).trans (j7.new hga)
 have h4:t6 (t6 HE pl (.lst ((cI (P0 n ds)).map V.int))) ga (.tup ((cI (P0 n ds)).map V.int)) ga=some (.tup ((cI (P0 n ds)).map V.int)):=f6
 try dsimp -proj only[N7]
 generalize t6 (t6 HE pl (.lst ((cI (P0 n ds)).map V.int))) ga (.tup ((cI (P0 n ds)).map V.int))=HF at g4 h4
 have g9F:=g3.trans g4
 refine ⟨l,ua,ga,rv,n,ns,rs,P0 n ds,rfl,⟨Dt.mkI nua (g9F _ _ hua9),hU,hrd9.kp (g9F.kp l),hR,n1,n4⟩,h4,aO n ds,(by rw[xA hdb];exact hdl20),fun du HG gG hdu=>?_⟩
 have g9G:=g9F.trans gG
 have hdu':HG du=some (.tup ((fr (Dx n ns rs ds)).map V.int)):=hdu
 have sG:=s9.same g9G
 have huaG:=g9G _ _ hua9
 have hrdG:=hrd9.kp (g9G.kp l)
 have hTG:=g9G _ _ hT9
 try dsimp -proj only[N7]
 clear hdu h4 g4 hpl hga g3 g9F g9G gG s9 hua9 hrd9 hT9 HF
 refine FE ?_
 refine ze (fun σ Hj=>j7 HG Hj/\∃o9,σ=[some (.ref a),some (.int i),some (.ref l),some (.int n),some (.ref ua),some rv,some (.int k),some (.ref dt),some (.ref du),o9,oa,ob,oc]) (fun N hN=>?_) (fun σ Hc h=>?_)
 ·refine ⟨_,rfl,_,rfl,1,rfl,dt,_,rfl,rfl,.of hTG,fun pr hpr=>⟨(by show 2<=i7;decide),fun pp hpp=>⟨pp,rfl,⟨_,.of f6⟩,?_⟩⟩⟩
  have g10:j7 HG (t6 HG pr (.tup ((cI ds).map V.int).reverse)):=j7.new hpr
  have hpr10:t6 HG pr (.tup ((cI ds).map V.int).reverse) pr=some (.tup ((cI ds.reverse).map V.int)):=by
   rw[f6]
   unfold cI
   rw[cF,cF]
  generalize t6 HG pr (.tup ((cI ds).map V.int).reverse)=H10 at g10 hpr10 hpp
  have g11:j7 H10 (t6 H10 pp (.lst [.ref dt,.ref pr])):=j7.new hpp
  have hpp11:t6 H10 pp (.lst [.ref dt,.ref pr]) pp=some (.lst [.ref dt,.ref pr]):=f6
  generalize t6 H10 pp (.lst [.ref dt,.ref pr])=H11 at g11 hpp11
  have gg:=g10.trans g11
  have s11:=sG.same gg
  have both:∀z∈([.ref dt,.ref pr]:List V),∃(qd:Addr) (ks:List Nat),z=.ref qd/\H11 qd=some (.tup ((cI ks).map V.int))/\(∀k∈ks,k<n)/\ks.length<=20/\Dx n ns rs ks=Dx n ns rs ds:=fun z hz=>by
   simp only[C1,C0,or_false] at hz
   rcases hz with e|e
   ·exact ⟨dt,ds,e,gg _ _ hTG,hdb,hdl20,rfl⟩
   ·exact ⟨pr,ds.reverse,e,g11 _ _ hpr10,fun k hk=>hdb k (List.mem_reverse.mp hk),by rw[J6];exact hdl20,Il n ns rs ds⟩
  have hua11:=gg _ _ huaG
  have hrd11:=hrdG.kp (gg.kp l)
  have hdt11:=gg _ _ hTG
  have hdu11:=gg _ _ hdu'
  have ndu:=s11.neL hdu11
  refine oj (K:=K) (a:=pp) (xs:=[.ref dt,.ref pr]) (fun j σ Hj=>j7 H11 Hj/\∃o9,σ=[some (.ref a),some (.int i),some (.ref l),some (.int n),some (.ref ua),some rv,some (.int k),some (.ref dt),some (.ref du),o9,oa,ob,oc])
   ⟨j7.refl _,o9,rfl⟩ (fun j σ Hj _ h=>.of (h.1 _ _ hpp11)) (fun j z σ Hj hz h=>?_) (fun σ Hc h=>?_)
  rotate_left
  ·exact hN _ _ ⟨gg.trans h.1,h.2⟩
  ·obtain ⟨gj,o9',rfl⟩:=h
   obtain ⟨qd,ks,rfl,hqd,hkn,hkl,hao⟩:=both z (B0 hz)
   refine ⟨_,rfl,_,rfl,_,rfl,.inr ⟨l,ua,qd,rv,n,ns,rs,ks,rfl,⟨Dt.mkI nua (gj _ _ hua11),hU,hrd11.kp (gj.kp l),hR,n1,n4⟩,Dt.mkI (s11.neL hqd) (gj _ _ hqd),hkn,hkl,fun r Hk gk hr2=>?_⟩⟩
   rw[hao] at hr2
   have hduk:=(gj.trans gk) _ _ hdu11
   refine ⟨_,rfl,?_⟩
   dsimp -proj only[jQ]
   refine Jt (st:=l) ((s11.same (gj.trans gk)).neL hr2) ndu (by show 2<=1000;decide) hr2 hduk fun Hm gm=>⟨_,rfl,Q3 ⟨(gj.trans gk).trans gm,_,rfl⟩⟩
 obtain ⟨gc,o9',rfl⟩:=h
 have s12:=sG.same gc
 have hua12:=gc _ _ huaG
 have hrd12:=hrdG.kp (gc.kp l)
 have hdt12:=gc _ _ hTG
 clear gc sG huaG hrdG hTG hdu' k20 hdl
 have okr:Ad (DR rs):=⟨tQ (by lia),qf hR (by lia)⟩
 have shu:aN (DI ns):=gX (by lia)
 obtain ⟨_,x12,hx12,ok12⟩:=id s12
 refine ⟨_,rfl,_,rfl,l,ua,x12,b,ns,rfl,hx12,ok12,hua12,by lia,by lia,fun v1 He se tg1=>?_⟩
 have s13:=s12.trans se
 obtain ⟨_,x13,hx13,ok13⟩:=id s13
 refine ⟨_,rfl,l,x13,b,rfl,hx13,ok13,fun v2 Hf sf tg2=>⟨(by show 2<=i7;decide),fun pb hnpb=>?_⟩⟩
 have s14:=s13.trans sf
 have g14:j7 Hf (t6 Hf pb (.lst [v1,v2])):=j7.new hnpb
 have hpb:t6 Hf pb (.lst [v1,v2]) pb=some (.lst [v1,v2]):=f6
 have npb:pb≠l:=(s14.ne hnpb).symm
 have s15:=s14.same g14
 try dsimp only
 generalize t6 Hf pb (.lst [v1,v2])=Hg at g14 hpb s15
 obtain ⟨_,x15,hx15,ok15⟩:=id s15
 refine ⟨_,rfl,l,2,x15,b,rfl,hx15,ok15,by decide,by decide,fun y3 x16 hy3 ok16=>?_⟩
 have s16:=s15.go ok16
 have k16:Kp l Hg (t6 Hg l (.lst [.int x16,.bl b])):=Kp.at
 try dsimp only
 generalize t6 Hg l (.lst [.int x16,.bl b])=Hh at s16 k16
 have kf:=(g14.kp l).trans k16
 obtain ⟨vbe,hvbe,tgbe⟩:∃vbe,([v1,v2]:List V)[y3]?=some vbe/\Tg l Hh vbe:=by
  have hy':y3<2:=by lia
  match y3,hy' with
  | 0,_=>exact ⟨v1,rfl,(tg1.kp sf.1).kp kf⟩
  | 1,_=>exact ⟨v2,rfl,tg2.kp kf⟩
 refine ⟨pb,_,_,_,rfl,rfl,.of (k16 _ _ npb hpb),C8 hvbe,?_⟩
 have kh:=(se.1.trans sf.1).trans kf
 have hrd16:=hrd12.kp kh
 have hua16:=kh _ _ nua hua12
 have hdt16:=kh _ _ ndt hdt12
 obtain ⟨_,xx,hxx,okx⟩:=id s16
 refine ⟨_,rfl,_,rfl,l,rv,xx,b,n,rs,rfl,hxx,okx,hrd16,hR,n1,n4,fun vb Hi si tgb=>⟨(by show 2<=i7;decide),fun pw hpw=>⟨pw,_,rfl,.of f6,rfl,_,_,rfl,_,_,rfl,rfl,?_⟩⟩⟩
 have g17:j7 Hi (t6 Hi pw (.tup [vbe,vb])):=j7.new hpw
 have s17:=(s16.trans si).same g17
 have ki:=si.1.trans (g17.kp l)
 have tgbe17:=tgbe.kp ki
 have tgb17:=tgb.kp (g17.kp l)
 have hrd17:=hrd16.kp ki
 have hua17:=ki _ _ nua hua16
 have hdt17:=ki _ _ ndt hdt16
 try dsimp -proj only[N7]
 generalize t6 Hi pw (.tup [vbe,vb])=Hj at g17 s17 ki tgbe17 tgb17 hrd17 hua17 hdt17
 obtain ⟨_,x17,hx17,ok17⟩:=id s17
 refine ⟨_,rfl,_,rfl,_,rfl,l,dt,x17,b,n,ds,rfl,hx17,ok17,hdt17,hdl20,fun vno Hm sk hno=>?_⟩
 have s18:=s17.trans sk
 obtain ⟨dbe,hdbe,okbe⟩:=tgbe17.kp sk.1
 obtain ⟨db,hdb',okb⟩:=tgb17.kp sk.1
 obtain ⟨dno,hdno,shno⟩:=hno
 have shno:=zd shno
 have Dr:=hrd17.kp sk.1
 have Du:Dt l Hm (DI ns) (.ref ua):=Dt.mkI nua (sk.1 _ _ nua hua17)
 have hSm:=hA Hm s18.1
 have hCTm:kK lq T Hm:=by
  obtain ⟨_,x3',hx3',_⟩:=id s3
  exact hCT3.kp hx3' s18.1
 clear tgbe17 tgb17 tgbe tgb tg1 tg2 s12 s13 s14 s15 s16 s17 hua12 hua16 hua17 hrd12 hrd16 hrd17 hdt12 hdt16 hdt17 g14 g17 ki kf kh s18 s3 hA
 try dsimp -proj only[N7]
 obtain ⟨psm,hTm,_⟩:=id hCTm
 have uok:=xy hU n1 n4
 have rok:dU (bZ (DI ns):Int) (DR rs)=true:=by rw[V9,nl4];exact tX hR
 refine FE ?_
 refine qg (T:=T) (q:=lq) (fun N hN=>?_) (fun Hn kn hCTn=>?_)
 ·refine ⟨_,rfl,vbe,l,dbe,rfl,hdbe,okbe.1,fun H1 g1=>⟨_,rfl,?_⟩⟩
  cases hu:dY 20 dbe with
  | true=>exact Q3 (Q3 (hN H1 (g1.kp T) (hCTm.same g1)))
  | false =>
   refine P8 ?_
   obtain ⟨ps1,hT1,_⟩:=id (hCTm.same g1)
   refine fun Zc=>⟨hCTm.same g1,fun f0 c0 ctv Hl hkl hCTl hfn hf0 hc0 Hf frz=>?_⟩
   refine sv (k:=8) (N:=["_law_bent_here","_law_bad","_law_lost"]) (ix:=[some 10,some 11,some 12]) (o:=some 0) Zc frz ⟨c0,ctv,hf0,hc0⟩ rfl rfl rfl rfl (by decide +kernel) rfl (fun i e=>by cases e;decide) (fun _ _=>rfl) (fun c1 A' outer' s' E1 Q1 hr' hin hE=>⟨_,aj C.ao8 hr' rfl sg (b7 (pv 0) (b7 (pv 1) (b7 (pv 2) d8))),?_⟩) (fun Ho g=>⟨rfl,_,rfl,Cf rfl ?_⟩)
   ·have up:∀{dd:A2}{vv:V},Dt l Hm dd vv->Dt l _ dd vv:=fun {dd vv} hh=>(ak hT1 hkl (hh.kp (g1.kp l))).kp (hin.kp l)
    exact ⟨_,rfl,_,rfl,_,rfl,.inl ⟨l,_,_,_,dbe,db,dno,0,rfl,up hdbe,okbe.1,up hdb',okb,up hdno,shno,.inl ⟨rfl,hu⟩,hE⟩⟩
   ·exact hN _ ((g1.kp T).trans (Kp.trans (show Kp T H1 Hl from hkl) ((frz.back g).kp T))) (hCTl.same (frz.back g))
 obtain ⟨psn,hTn,_⟩:=id hCTn
 have Db2:=ak hTm kn hdb'
 have Dno2:=ak hTm kn hdno
 have Du2:=ak hTm kn Du
 have Dr2:=ak hTm kn Dr
 have hS2:=xj hTm kn hSm
 refine qg (T:=T) (q:=lq) (fun N hN=>?_) (fun Ho ko hCTo=>?_)
 ·refine ⟨_,rfl,_,rfl,vb,l,db,(n:Int),rfl,Db2,by lia,fun H1 g1=>⟨_,rfl,?_⟩⟩
  cases hu:dU (n:Int) db with
  | true=>exact Q3 (Q3 (hN H1 (g1.kp T) (hCTn.same g1)))
  | false =>
   refine P8 ?_
   obtain ⟨ps1,hT1,_⟩:=id (hCTn.same g1)
   refine fun Zc=>⟨hCTn.same g1,fun f0 c0 ctv Hl hkl hCTl hfn hf0 hc0 Hf frz=>?_⟩
   refine sv (k:=8) (N:=["_law_urn","_law_bad","_law_lost"]) (ix:=[some 4,some 11,some 12]) (o:=some 1) Zc frz ⟨c0,ctv,hf0,hc0⟩ rfl rfl rfl rfl (by decide +kernel) rfl (fun i e=>by cases e;decide) (fun _ _=>rfl) (fun c1 A' outer' s' E1 Q1 hr' hin hE=>⟨_,aj C.ao8 hr' rfl sg (b7 (pv 0) (b7 (pv 1) (b7 (pv 2) d8))),?_⟩) (fun Hw g=>⟨rfl,_,rfl,Cf rfl ?_⟩)
   ·have up:∀{dd:A2}{vv:V},Dt l Hn dd vv->Dt l _ dd vv:=fun {dd vv} hh=>(ak hT1 hkl (hh.kp (g1.kp l))).kp (hin.kp l)
    exact ⟨_,rfl,_,rfl,_,rfl,.inl ⟨l,_,_,_,DI ns,db,dno,1,rfl,up Du2,shu,up Db2,okb,up Dno2,shno,.inr (.inl ⟨rfl,uok,by rw[V9,nl4];exact hu⟩),hE⟩⟩
   ·exact hN _ ((g1.kp T).trans (Kp.trans (show Kp T H1 Hl from hkl) ((frz.back g).kp T))) (hCTl.same (frz.back g))
 obtain ⟨pso,hTo,_⟩:=id hCTo
 have Dno3:=ak hTn ko Dno2
 have Du3:=ak hTn ko Du2
 have Dr3:=ak hTn ko Dr2
 have hS3:=xj hTn ko hS2
 obtain ⟨ow,how1,how2⟩:∃ow:Option Nat,(ow=if aa n dno=true then none else some 4)/\∀i,ow=some i->i<10:=by
  refine ⟨_,rfl,fun i e=>?_⟩
  split at e
  ·cases e
  ·cases e;decide
 refine fun Zc=>⟨hCTo,fun f0 c0 ctv Hl hkl hCTl hfn hf0 hc0 Hf frz=>?_⟩
 refine sv (k:=8) (N:=["_law_urn","_law_rule_here","_law_lost"]) (ix:=[some 4,some 5,some 12]) (o:=ow) Zc frz ⟨c0,ctv,hf0,hc0⟩ rfl rfl rfl rfl (by decide +kernel) rfl how2 (fun _ _=>rfl) (fun c1 A' outer' s' E1 Q1 hr' hin hE=>⟨_,aj C.ao8 hr' rfl sg (b7 (pv 0) (b7 (pv 1) (b7 (pv 2) d8))),?_⟩) (fun Hw g=>?_)
 ·have up:∀{dd:A2}{vv:V},Dt l Ho dd vv->Dt l _ dd vv:=fun {dd vv} hh=>(ak hTo hkl hh).kp (hin.kp l)
  refine ⟨_,rfl,_,rfl,_,rfl,?_⟩
  cases hdr:aa n dno with
  | true =>
   rw[how1,if_pos hdr] at hE
   obtain ⟨ks,ed,hkl2,hkn⟩:=uQ hdr
   subst ed
   obtain ⟨dd,ee,_,_⟩:=Dno3.di
   subst ee
   exact .inr ⟨l,ua,dd,rv,n,ns,rs,ks,rfl,⟨up Du3,hU,up Dr3,hR,n1,n4⟩,up Dno3,hkn,hkl2,fun r H' g' _=>hE _ H' g'⟩
  | false =>
   rw[how1,if_neg (by rw[hdr];exact fun y=>by cases y)] at hE
   exact .inl ⟨l,_,_,_,DI ns,DR rs,dno,4,rfl,up Du3,shu,up Dr3,okr,up Dno3,shno,.inr (.inr ⟨rfl,uok,rok,by rw[V9,nl4];exact hdr⟩),hE⟩
 have kt:=Kp.trans (show Kp T Ho Hl from hkl) ((frz.back g).kp T)
 have hCTt:=hCTl.same (frz.back g)
 have Dnot:=ak hTo kt Dno3
 have hSt:=xj hTo kt hS3
 generalize bc _ Hw=Ht at kt hCTt Dnot hSt
 refine ⟨(by show 2<=i7;decide),fun pn hnpn=>?_⟩
 have gn:j7 Ht (t6 Ht pn (.lst [.non,.str "draws"])):=j7.new hnpn
 have hpn:t6 Ht pn (.lst [.non,.str "draws"]) pn=some (.lst [.non,.str "draws"]):=f6
 try dsimp only
 generalize t6 Ht pn (.lst [.non,.str "draws"])=Hq at gn hpn
 refine ⟨_,rfl,_,rfl,vno,l,dno,n,rfl,Dnot.kp (gn.kp l),shno,fun H9' g9'=>⟨_,rfl,.inr ⟨_,rfl,pn,_,_,BB ow,rfl,rfl,.of (g9' _ _ hpn),?_,AM ow how2,_,rfl,Cf rfl ?_⟩⟩⟩
 ·rw[how1]
  cases hh:aa n dno with
  | true=>rfl
  | false=>rfl
 ·have gf:=gn.trans g9'
  refine ⟨?_,hCTt.same gf,_,_,_,_,_,_,_,_,_,_,_,_,rfl⟩
  rcases hSt with (h|⟨o,h⟩)|h
  ·exact .inl (.inl (gf _ _ h))
  ·exact .inl (.inr ⟨o,gf _ _ h⟩)
  ·exact .inr h
end
end G
set_option maxHeartbeats 4000000
namespace G
open PySem PySem.Spec PyProof.Rows L2 Mt
noncomputable def dM (K:m9) (x:Str) (st:Stmt):Prop:=∃(f:Addr) (oc:d6) (od:Option Addr) (kV doc pm:d6) (an:Option Addr) (cdv ct:d6) (sl:Array (Option d6)),
 M4 K u5 x=some (some (.ref f))/\K.lookup f=some ⟨oc,od,.func (fg x x (cO st) (Z3 st) (v9 st) .none kV doc pm an cdv ct),sl⟩/\iU K cdv x=true/\ba K (.ref f)=true
variable {K:m9}{x:Str}
theorem E8 {st:Stmt}{f:Addr}{oc:d6}{od:Option Addr}{kV doc pm:d6}{an:Option Addr}{cdv ct:d6}{sl:Array (Option d6)}
  (a:M4 K u5 x=some (some (.ref f))) (l:K.lookup f=some ⟨oc,od,.func (fg x x (cO st) (Z3 st) (v9 st) .none kV doc pm an cdv ct),sl⟩) (c:iU K cdv x=true) (k:ba K (.ref f)=true):dM K x st :=
 ⟨f,oc,od,kV,doc,pm,an,cdv,ct,sl,a,l,c,k⟩
noncomputable def Kn (K:m9) (x:Str) (st:Stmt) (T:Addr):Prop:=∃(f:Addr) (oc:d6) (od:Option Addr) (kV doc pm:d6) (an:Option Addr) (cc:Addr) (ct:d6) (sl:Array (Option d6)),
 M4 K u5 x=some (some (.ref f))/\K.lookup f=some ⟨oc,od,.func (fg x x (cO st) (Z3 st) (v9 st) .none kV doc pm an (.ref cc) ct),sl⟩/\iU K (.ref cc) x=true/\ba K (.ref f)=true/\jm K cc T=true/\K.lookup T=none
variable {T:Addr}
theorem EM {st:Stmt}{f:Addr}{oc:d6}{od:Option Addr}{kV doc pm:d6}{an:Option Addr}{cc:Addr}{ct:d6}{sl:Array (Option d6)}
  (a:M4 K u5 x=some (some (.ref f))) (l:K.lookup f=some ⟨oc,od,.func (fg x x (cO st) (Z3 st) (v9 st) .none kV doc pm an (.ref cc) ct),sl⟩) (c:iU K (.ref cc) x=true) (k:ba K (.ref f)=true) (t:jm K cc T=true) (n:K.lookup T=none):Kn K x st T :=
 ⟨f,oc,od,kV,doc,pm,an,cc,ct,sl,a,l,c,k,t,n⟩
variable {w:t9}{mg:Str->Option d6}{h:Heap}
theorem K0 {P:j9}{base:Heap}{st:Stmt}{ps:List Str}{k:Nat}{sp:Sp} (X:K.In h) (G:h.Ns u5 mg) (H:dM K x st)
  (hb:∀(f:Addr) (fd:C4),aY K x x st f fd->jh K fd ps []) (ok:∀(f:Addr) (fd:C4),aY K x x st f fd->M0 P w K mg base cH k f fd ps sp):S2 P w K mg base k x ps sp:=by
 obtain ⟨f,oc,od,kV,doc,pm,an,cdv,ct,sl,a,l,c,kp⟩:=H
 have F:=wW (st:=st) l c kp
 exact ⟨f,_,W6 X G a,kp,hb _ _ F,ok _ _ F⟩
theorem fO {P:j9}{base:Heap}{st:Stmt}{ps:List Str}{k:Nat}{sp:Sp} (X:K.In h) (G:h.Ns u5 mg) (H:dM K x st)
  (hb:∀(f:Addr) (fd:C4),aY K x x st f fd->jh K fd ps []) (ok:∀(f:Addr) (fd:C4),aY K x x st f fd->M0 P w K mg base (jG P w) k f fd ps sp):eZ P w K mg base k x ps sp:=by
 obtain ⟨f,oc,od,kV,doc,pm,an,cdv,ct,sl,a,l,c,kp⟩:=H
 have F:=wW (st:=st) l c kp
 exact ⟨f,_,W6 X G a,kp,hb _ _ F,ok _ _ F⟩
noncomputable def uO (K:m9) (B:Addr):List Addr->Bool
 | []=>true
 | C::cs=>Iw K C vE "ValueError.__new__"&&S7 K (.ref C) "__getattribute__" == some (some (.builtin "BaseException.__getattribute__"))&&S7 K (.ref C) "__getattr__" == some none&&lH K (.ref C) (.type "BaseException") == some true&&(vo K C).isSome&&S7 K (.ref C) "__class__" == some (some (.builtin "object.__class__")) &&
   Iv K C (.type "object") == some true&&vM K (.ref C) (.ref B) == some true&&aZ K (.ref C) (.type "ValueError") == some true&&uO K B cs
noncomputable def JU (K:m9) (B:Addr):Bool:=kO K (.builtin "object.__class__") "__get__" == some (some (.builtin "getset_descriptor.__get__"))&&zX K (.builtin "object.__class__") == some true&&lH K (.ref B) (.type "BaseException") == some true
noncomputable def errC (K:m9) (cs:List Addr):Bool:=(D4 10).all fun i=>(D4 10).all fun j=>aZ K (.ref (cs.getD i 0)) (.ref (cs.getD j 0)) == some (decide (i=j))
theorem uN {K:m9}{B:Addr}:∀{cs:List Addr}{i:Nat},uO K B cs=true->i<cs.length->uO K B [cs.getD i 0]=true
 | C::cs,0,h,_=>by
  unfold uO at h
  rw[A6] at h
  unfold uO
  rw[A6]
  exact ⟨h.1,rfl⟩
 | C::cs,i+1,h,hi=>by
  unfold uO at h
  rw[A6] at h
  have:=uN (cs:=cs) (i:=i) h.2 (by simpa using hi)
  simpa using this
theorem ER {a0 a1 a2 a3 a4 a5 a6 a7 a8 a9 B:Addr} (X:K.In h) (G:h.Ns u5 mg)
  (e0:M4 K u5 "NoUrn"=some (some (.ref a0))) (e1:M4 K u5 "NoRule"=some (some (.ref a1))) (e2:M4 K u5 "NoKind"=some (some (.ref a2))) (e3:M4 K u5 "NoBall"=some (some (.ref a3))) (e4:M4 K u5 "NoDraws"=some (some (.ref a4)))
  (e5:M4 K u5 "NoNumber"=some (some (.ref a5))) (e6:M4 K u5 "NotEven"=some (some (.ref a6))) (e7:M4 K u5 "NoCounts"=some (some (.ref a7))) (e8:M4 K u5 "NotAlike"=some (some (.ref a8))) (e9:M4 K u5 "BadNote"=some (some (.ref a9)))
  (eb:M4 K u5 "UrnError"=some (some (.ref B))) (hA:uO K B [a0,a1,a2,a3,a4,a5,a6,a7,a8,a9]=true) (hB:JU K B=true) (hC:errC K [a0,a1,a2,a3,a4,a5,a6,a7,a8,a9]=true):
  xk K mg (fun i=>[a0,a1,a2,a3,a4,a5,a6,a7,a8,a9].getD i 0) B:=by
 unfold JU at hB
 simp only[A6,beq_iff_eq] at hB
 obtain ⟨⟨b1,b2⟩,b3⟩:=hB
 have A:∀i,i<10->_:=fun i hi=>uN (i:=i) hA hi
 have A':∀i,i<10->((((((((Iw K ([a0,a1,a2,a3,a4,a5,a6,a7,a8,a9].getD i 0) vE "ValueError.__new__"=true/\S7 K (.ref ([a0,a1,a2,a3,a4,a5,a6,a7,a8,a9].getD i 0)) "__getattribute__"=some (some (.builtin "BaseException.__getattribute__")))/\S7 K (.ref ([a0,a1,a2,a3,a4,a5,a6,a7,a8,a9].getD i 0)) "__getattr__"=some none)/\lH K (.ref ([a0,a1,a2,a3,a4,a5,a6,a7,a8,a9].getD i 0)) (.type "BaseException")=some true)/\(vo K ([a0,a1,a2,a3,a4,a5,a6,a7,a8,a9].getD i 0)).isSome=true) /\
   S7 K (.ref ([a0,a1,a2,a3,a4,a5,a6,a7,a8,a9].getD i 0)) "__class__"=some (some (.builtin "object.__class__")))/\Iv K ([a0,a1,a2,a3,a4,a5,a6,a7,a8,a9].getD i 0) (.type "object")=some true)/\vM K (.ref ([a0,a1,a2,a3,a4,a5,a6,a7,a8,a9].getD i 0)) (.ref B)=some true) /\
   aZ K (.ref ([a0,a1,a2,a3,a4,a5,a6,a7,a8,a9].getD i 0)) (.type "ValueError")=some true):=fun i hi=>by
  have z:=A i hi
  unfold uO at z
  rw[A6] at z
  have z1:=z.1
  simp only[A6,beq_iff_eq] at z1
  exact z1
 exact ⟨W6 X G e0,W6 X G e1,W6 X G e2,W6 X G e3,W6 X G e4,W6 X G e5,W6 X G e6,W6 X G e7,W6 X G e8,W6 X G e9,W6 X G eb,
  fun i hi=>(A' i hi).1.1.1.1.1.1.1.1,fun i hi=>⟨(A' i hi).1.1.1.1.1.1.1.2,(A' i hi).1.1.1.1.1.1.2,(A' i hi).1.1.1.1.1.2,(A' i hi).1.1.1.1.2,(A' i hi).1.1.1.2,b1,b2,(A' i hi).1.1.2⟩,fun i hi=>(A' i hi).1.2,b3,
  fun i j hi hj=>by
   have z:=List.all_eq_true.mp (List.all_eq_true.mp hC i (List.mem_range.mpr hi)) j (List.mem_range.mpr hj)
   exact beq_iff_eq.mp z,fun i hi=>(A' i hi).2⟩
theorem Im {l:IW}{fa Bs:Addr}{c:Nat->Addr} (X:K.In h) (G:h.Ns u5 mg) (hfa:mg "law"=some (.ref fa)) (R:xk K mg c Bs)
  (h1:dM K "is_number" hV) (h2:dM K "is_whole" ju) (h3:dM K "are_wholes" fA) (h4:dM K "need_number" ef) (h5:dM K "is_urn_up_to" dg) (h6:dM K "is_urn" nK) (h7:dM K "is_rule" kX) (h8:dM K "need_urn" js) (h9:dM K "need_rule" hJ) (h10:dM K "need_urn_and_rule" AY) (h11:dM K "greatest_divisor" GD) (h12:dM K "fraction" jv) (h13:dM K "times" rH) (h14:dM K "plus" wk) (h15:dM K "share" rK) (h16:dM K "urn_by_counts" AW) (h17:dM K "one_more" GC) (h18:dM K "next_chances_by_counts" AZ) (h19:dM K "chances_by_counts" Be) (h20:dM K "need_draws" fx) (h21:dM K "any_order" GI) (h22:dM K "_law_cell_at" kY) (h23:dM K "_law_state" rJ) (h24:dM K "_law_take" wg) (h25:dM K "_law_refused" kU) (h26:dM K "_law_urn_of" wm) (h27:dM K "_law_rule" rL) (h28:dM K "_law_whole" rG) (h29:dM K "_law_is_urn" kW) (h30:dM K "_law_is_rule" jt) (h31:dM K "_law_bent_urn" GG) (h32:dM K "_law_bent_rule" GH) (h33:dM K "_law_odd" AX) (h34:dM K "_law_bent" wq) (h35:dM K "_law_is_draws" Ba) (h36:dM K "_law_behind" Bf) (h37:dM K "_law_fraction" Bc) (h38:dM K "_law_by" GF) (h39:dM K "_law_plus" rM) (h40:dM K "_law_due" Bb) (h41:dM K "_law_same" nI) (h42:dM K "_law_same" nI)
  (hlaw:Kn K "law" nJ T)
  (z1:M4 K u5 "isinstance"=some none) (z2:M4 K u5 "bool"=some none) (z3:M4 K u5 "int"=some none) (z4:M4 K u5 "tuple"=some none) (z5:M4 K u5 "list"=some none) (z6:M4 K u5 "all"=some none) (z7:M4 K u5 "sum"=some none) (z8:M4 K u5 "len"=some none) (z9:M4 K u5 "range"=some none) (z10:M4 K u5 "max"=some none) (z11:M4 K u5 "min"=some none) (z12:M4 K u5 "abs"=some none) (z13:M4 K u5 "zip"=some none) (z14:M4 K u5 "any"=some none) (z15:M4 K u5 "enumerate"=some none) (z16:M4 K u5 "sorted"=some none) (zV:M4 K u5 "ValueError"=some none)
  {t1:Tok} (m1:M4 K u5 "MOST_KINDS"=some (some (.int 4 t1))) {t2:Tok} (m2:M4 K u5 "MOST_BALLS"=some (some (.int 20 t2))) {t3:Tok} (m3:M4 K u5 "MOST_PUT_IN"=some (some (.int 5 t3))) {t4:Tok} (m4:M4 K u5 "MOST_DRAWS"=some (some (.int 20 t4))):
  ∃fd:C4,(∀(s:d7) (v:d6),rm s fd ⟨[v],[]⟩ [("_law_script",v)])/\(K.lookup T=none/\∃cc,jm K cc T=true)/\∀base:Heap,K.In base->base.Ns u5 mg->base.BuiltinsAt mg T->M0 l.prog w K mg base cH 11 fa fd ["_law_script"] (xC K T):=by
 obtain ⟨f,oc,od,kV,doc,pm,an,cc,ct,sl,a,lk,c',kp,hcd,hTn⟩:=hlaw
 have e:=hfa.symm.trans (W6 X G a)
 cases e
 have F:=wW (st:=nJ) lk c' kp
 have B:Bt mg:=⟨G7 X G z1,G7 X G z2,G7 X G z3,G7 X G z4,G7 X G z5,G7 X G z6,G7 X G z7,G7 X G z8,G7 X G z9,G7 X G z10,G7 X G z11,G7 X G z12,G7 X G z13⟩
 have B2:Bt2 mg:=⟨G7 X G z14⟩
 have B3:Bt3 mg:=⟨G7 X G z15,G7 X G z16⟩
 have C:Ct mg:=⟨⟨_,W6 X G m1⟩,⟨_,W6 X G m2⟩,⟨_,W6 X G m3⟩⟩
 have CD:CtD mg:=⟨⟨_,W6 X G m4⟩⟩
 have hVE:=G7 X G zV
 refine ⟨fg "law" "law" (cO nJ) (Z3 nJ) (v9 nJ) .none kV doc pm an (.ref cc) ct,fun s v=>.of_eq rfl,⟨hTn,cc,hcd⟩,fun base hKb _ hbm=>?_⟩
 have c_is_number:S2 l.prog w K mg base 0 "is_number" ["thing"] ft:=K0 X G h1 (fun f fd F=>F.binds (ps:=["thing"]) fun _ _ _ _ _ _ us hl=>match us,hl with | [_],_=>rfl) (fun f fd F=>so F B)
 have c_is_whole:S2 l.prog w K mg base 1 "is_whole" ["thing","low","high"] dS:=K0 X G h2 (fun f fd F=>F.binds (ps:=["thing","low","high"]) fun _ _ _ _ _ _ us hl=>match us,hl with | [_,_,_],_=>rfl) (fun f fd F=>uj F c_is_number)
 have c_are_wholes:S2 l.prog w K mg base 2 "are_wholes" ["thing","low","high"] ag:=K0 X G h3 (fun f fd F=>F.binds (ps:=["thing","low","high"]) fun _ _ _ _ _ _ us hl=>match us,hl with | [_,_,_],_=>rfl) (fun f fd F=>pF F B c_is_whole)
 have c_need_number:eZ l.prog w K mg base 2 "need_number" ["thing","low","high"] (df c):=fO X G h4 (fun f fd F=>F.binds (ps:=["thing","low","high"]) fun _ _ _ _ _ _ us hl=>match us,hl with | [_,_,_],_=>rfl) (fun f fd F=>nV F R c_is_whole)
 have c_is_urn_up_to:S2 l.prog w K mg base 3 "is_urn_up_to" ["thing","most"] cA:=K0 X G h5 (fun f fd F=>F.binds (ps:=["thing","most"]) fun _ _ _ _ _ _ us hl=>match us,hl with | [_,_],_=>rfl) (fun f fd F=>mn F B C c_are_wholes)
 have c_is_urn:S2 l.prog w K mg base 4 "is_urn" ["thing"] cU:=K0 X G h6 (fun f fd F=>F.binds (ps:=["thing"]) fun _ _ _ _ _ _ us hl=>match us,hl with | [_],_=>rfl) (fun f fd F=>zk F C c_is_urn_up_to)
 have c_is_rule:eZ l.prog w K mg base 3 "is_rule" ["kinds","thing"] (jq c):=fO X G h7 (fun f fd F=>F.binds (ps:=["kinds","thing"]) fun _ _ _ _ _ _ us hl=>match us,hl with | [_,_],_=>rfl) (fun f fd F=>wF F B C c_are_wholes c_need_number)
 have c_need_urn:eZ l.prog w K mg base 5 "need_urn" ["thing"] (gU c):=fO X G h8 (fun f fd F=>F.binds (ps:=["thing"]) fun _ _ _ _ _ _ us hl=>match us,hl with | [_],_=>rfl) (fun f fd F=>uh F R c_is_urn)
 have c_need_rule:eZ l.prog w K mg base 4 "need_rule" ["kinds","thing"] (fq c):=fO X G h9 (fun f fd F=>F.binds (ps:=["kinds","thing"]) fun _ _ _ _ _ _ us hl=>match us,hl with | [_,_],_=>rfl) (fun f fd F=>sm F R c_is_rule)
 have c_need_urn_and_rule:eZ l.prog w K mg base 6 "need_urn_and_rule" ["urn","rule"] (vV c):=fO X G h10 (fun f fd F=>F.binds (ps:=["urn","rule"]) fun _ _ _ _ _ _ us hl=>match us,hl with | [_,_],_=>rfl) (fun f fd F=>Hr F B c_need_urn c_need_rule)
 have c_greatest_divisor:S2 l.prog w K mg base 1 "greatest_divisor" ["one","other"] AI:=K0 X G h11 (fun f fd F=>F.binds (ps:=["one","other"]) fun _ _ _ _ _ _ us hl=>match us,hl with | [_,_],_=>rfl) (fun f fd F=>JL F B)
 have c_fraction:S2 l.prog w K mg base 2 "fraction" ["top","bottom"] bW:=K0 X G h12 (fun f fd F=>F.binds (ps:=["top","bottom"]) fun _ _ _ _ _ _ us hl=>match us,hl with | [_,_],_=>rfl) (fun f fd F=>uk F c_greatest_divisor)
 have c_times:S2 l.prog w K mg base 3 "times" ["one","other"] eQ:=K0 X G h13 (fun f fd F=>F.binds (ps:=["one","other"]) fun _ _ _ _ _ _ us hl=>match us,hl with | [_,_],_=>rfl) (fun f fd F=>BF F c_fraction)
 have c_plus:S2 l.prog w K mg base 3 "plus" ["one","other"] iG:=K0 X G h14 (fun f fd F=>F.binds (ps:=["one","other"]) fun _ _ _ _ _ _ us hl=>match us,hl with | [_,_],_=>rfl) (fun f fd F=>Ey F c_fraction)
 have c_share:S2 l.prog w K mg base 3 "share" ["urn","kind"] nq:=K0 X G h15 (fun f fd F=>F.binds (ps:=["urn","kind"]) fun _ _ _ _ _ _ us hl=>match us,hl with | [_,_],_=>rfl) (fun f fd F=>BH F B c_fraction)
 have c_urn_by_counts:S2 l.prog w K mg base 1 "urn_by_counts" ["urn","rule","counts"] vT:=K0 X G h16 (fun f fd F=>F.binds (ps:=["urn","rule","counts"]) fun _ _ _ _ _ _ us hl=>match us,hl with | [_,_,_],_=>rfl) (fun f fd F=>GY F B)
 have c_one_more:S2 l.prog w K mg base 1 "one_more" ["counts","kind"] AH:=K0 X G h17 (fun f fd F=>F.binds (ps:=["counts","kind"]) fun _ _ _ _ _ _ us hl=>match us,hl with | [_,_],_=>rfl) (fun f fd F=>JK F )
 have c_next_chances_by_counts:S2 l.prog w K mg base 4 "next_chances_by_counts" ["chances","urn","rule","goal"] vW:=K0 X G h18 (fun f fd F=>F.binds (ps:=["chances","urn","rule","goal"]) fun _ _ _ _ _ _ us hl=>match us,hl with | [_,_,_,_],_=>rfl) (fun f fd F=>Hs F B c_urn_by_counts c_one_more c_times c_share c_plus)
 have c_chances_by_counts:S2 l.prog w K mg base 5 "chances_by_counts" ["urn","rule","goal","draws"] vZ:=K0 X G h19 (fun f fd F=>F.binds (ps:=["urn","rule","goal","draws"]) fun _ _ _ _ _ _ us hl=>match us,hl with | [_,_,_,_],_=>rfl) (fun f fd F=>HH F B c_next_chances_by_counts)
 have c_need_draws:eZ l.prog w K mg base 3 "need_draws" ["urn","thing"] (dZ c):=fO X G h20 (fun f fd F=>F.binds (ps:=["urn","thing"]) fun _ _ _ _ _ _ us hl=>match us,hl with | [_,_],_=>rfl) (fun f fd F=>pE F B CD R c_are_wholes)
 have c_any_order:eZ l.prog w K mg base 7 "any_order" ["urn","rule","draws"] (xB c):=fO X G h21 (fun f fd F=>F.binds (ps:=["urn","rule","draws"]) fun _ _ _ _ _ _ us hl=>match us,hl with | [_,_,_],_=>rfl) (fun f fd F=>JP F B c_need_urn_and_rule c_need_draws c_chances_by_counts)
 have c__law_cell_at:S2 l.prog w K mg base 1 "_law_cell_at" ["_law_script","_law_k"] (jr K):=K0 X G h22 (fun f fd F=>F.binds (ps:=["_law_script","_law_k"]) fun _ _ _ _ _ _ us hl=>match us,hl with | [_,_],_=>rfl) (fun f fd F=>wG F B)
 have c__law_state:S2 l.prog w K mg base 2 "_law_state" ["_law_script","_law_k"] (nj K):=K0 X G h23 (fun f fd F=>F.binds (ps:=["_law_script","_law_k"]) fun _ _ _ _ _ _ us hl=>match us,hl with | [_,_],_=>rfl) (fun f fd F=>BG F c__law_cell_at)
 have c__law_take:S2 l.prog w K mg base 1 "_law_take" ["_law_state_here","_law_many"] aM:=K0 X G h24 (fun f fd F=>F.binds (ps:=["_law_state_here","_law_many"]) fun _ _ _ _ _ _ us hl=>match us,hl with | [_,_],_=>rfl) (fun f fd F=>Ex F )
 have c__law_refused:S2 l.prog w K mg base 10 "_law_refused" ["_law_call"] (fm l.prog w K mg base 9 c):=K0 X G h25 (fun f fd F=>F.binds (ps:=["_law_call"]) fun _ _ _ _ _ _ us hl=>match us,hl with | [_],_=>rfl) (fun f fd F=>wC F B R hVE)
 have c__law_urn_of:S2 l.prog w K mg base 2 "_law_urn_of" ["_law_state_here","_law_kinds"] rA:=K0 X G h26 (fun f fd F=>F.binds (ps:=["_law_state_here","_law_kinds"]) fun _ _ _ _ _ _ us hl=>match us,hl with | [_,_],_=>rfl) (fun f fd F=>Ez F B B2 c__law_take)
 have c__law_rule:S2 l.prog w K mg base 2 "_law_rule" ["_law_state_here","_law_kinds"] nv:=K0 X G h27 (fun f fd F=>F.binds (ps:=["_law_state_here","_law_kinds"]) fun _ _ _ _ _ _ us hl=>match us,hl with | [_,_],_=>rfl) (fun f fd F=>BK F B c__law_take)
 have c__law_whole:S2 l.prog w K mg base 1 "_law_whole" ["_law_thing"] cS:=K0 X G h28 (fun f fd F=>F.binds (ps:=["_law_thing"]) fun _ _ _ _ _ _ us hl=>match us,hl with | [_],_=>rfl) (fun f fd F=>BE F B)
 have c__law_is_urn:S2 l.prog w K mg base 2 "_law_is_urn" ["_law_thing"] cU:=K0 X G h29 (fun f fd F=>F.binds (ps:=["_law_thing"]) fun _ _ _ _ _ _ us hl=>match us,hl with | [_],_=>rfl) (fun f fd F=>wD F B B2 c__law_whole)
 have c__law_is_rule:S2 l.prog w K mg base 2 "_law_is_rule" ["_law_kinds","_law_thing"] gW:=K0 X G h30 (fun f fd F=>F.binds (ps:=["_law_kinds","_law_thing"]) fun _ _ _ _ _ _ us hl=>match us,hl with | [_,_],_=>rfl) (fun f fd F=>ui F B c__law_whole)
 have c__law_bent_urn:S2 l.prog w K mg base 2 "_law_bent_urn" ["_law_state_here","_law_urn"] AJ:=K0 X G h31 (fun f fd F=>F.binds (ps:=["_law_state_here","_law_urn"]) fun _ _ _ _ _ _ us hl=>match us,hl with | [_,_],_=>rfl) (fun f fd F=>JN F B c__law_take)
 have c__law_bent_rule:S2 l.prog w K mg base 2 "_law_bent_rule" ["_law_state_here","_law_rule_here"] AK:=K0 X G h32 (fun f fd F=>F.binds (ps:=["_law_state_here","_law_rule_here"]) fun _ _ _ _ _ _ us hl=>match us,hl with | [_,_],_=>rfl) (fun f fd F=>JO F B c__law_take)
 have c__law_odd:S2 l.prog w K mg base 2 "_law_odd" ["_law_state_here"] vU:=K0 X G h33 (fun f fd F=>F.binds (ps:=["_law_state_here"]) fun _ _ _ _ _ _ us hl=>match us,hl with | [_],_=>rfl) (fun f fd F=>GZ F c__law_take)
 have c__law_bent:S2 l.prog w K mg base 2 "_law_bent" ["_law_state_here","_law_draws","_law_kinds"] rB:=K0 X G h34 (fun f fd F=>F.binds (ps:=["_law_state_here","_law_draws","_law_kinds"]) fun _ _ _ _ _ _ us hl=>match us,hl with | [_,_,_],_=>rfl) (fun f fd F=>EA F B c__law_take)
 have c__law_is_draws:S2 l.prog w K mg base 2 "_law_is_draws" ["_law_kinds","_law_thing"] vX:=K0 X G h35 (fun f fd F=>F.binds (ps:=["_law_kinds","_law_thing"]) fun _ _ _ _ _ _ us hl=>match us,hl with | [_,_],_=>rfl) (fun f fd F=>Hv F B c__law_whole)
 have c__law_behind:S2 l.prog w K mg base 1 "_law_behind" ["_law_urn","_law_rule_here","_law_counts"] wa:=K0 X G h36 (fun f fd F=>F.binds (ps:=["_law_urn","_law_rule_here","_law_counts"]) fun _ _ _ _ _ _ us hl=>match us,hl with | [_,_,_],_=>rfl) (fun f fd F=>HI F B)
 have c__law_fraction:S2 l.prog w K mg base 1 "_law_fraction" ["_law_top","_law_bottom"] nA:=K0 X G h37 (fun f fd F=>F.binds (ps:=["_law_top","_law_bottom"]) fun _ _ _ _ _ _ us hl=>match us,hl with | [_,_],_=>rfl) (fun f fd F=>HD F B)
 have c__law_by:S2 l.prog w K mg base 2 "_law_by" ["_law_one","_law_other"] eQ:=K0 X G h38 (fun f fd F=>F.binds (ps:=["_law_one","_law_other"]) fun _ _ _ _ _ _ us hl=>match us,hl with | [_,_],_=>rfl) (fun f fd F=>JM F c__law_fraction)
 have c__law_plus:S2 l.prog w K mg base 2 "_law_plus" ["_law_one","_law_other"] iG:=K0 X G h39 (fun f fd F=>F.binds (ps:=["_law_one","_law_other"]) fun _ _ _ _ _ _ us hl=>match us,hl with | [_,_],_=>rfl) (fun f fd F=>BL F c__law_fraction)
 have c__law_due:S2 l.prog w K mg base 3 "_law_due" ["_law_urn","_law_rule_here","_law_counts"] vY:=K0 X G h40 (fun f fd F=>F.binds (ps:=["_law_urn","_law_rule_here","_law_counts"]) fun _ _ _ _ _ _ us hl=>match us,hl with | [_,_,_],_=>rfl) (fun f fd F=>HC F B B3 c__law_behind c__law_fraction c__law_by c__law_plus)
 have c__law_same:S2 l.prog w K mg base 1 "_law_same" ["_law_found","_law_due_here"] nu:=K0 X G h41 (fun f fd F=>F.binds (ps:=["_law_found","_law_due_here"]) fun _ _ _ _ _ _ us hl=>match us,hl with | [_,_],_=>rfl) (fun f fd F=>BJ F B)
 have c__law_same_0:=c__law_same
 have c__law_same:S2 l.prog w K mg base 2 "_law_same" ["_law_found","_law_due_here"] (jR A0):=K0 X G h42 (fun f fd F=>F.binds (ps:=["_law_found","_law_due_here"]) fun _ _ _ _ _ _ us hl=>match us,hl with | [_,_],_=>rfl) (fun f fd F=>BI F B c__law_same (fun _ _ _ _ _ h q=>Kx h q))
 exact Hu F B ⟨(c__law_state.up (by decide)),(c__law_take.up (by decide)),(c__law_urn_of.up (by decide)),(c__law_rule.up (by decide)),(c__law_due.up (by decide)),(c__law_same.up (by decide)),(c_any_order.up (by decide)),(c__law_bent_urn.up (by decide)),(c__law_bent_rule.up (by decide)),(c__law_odd.up (by decide)),(c__law_bent.up (by decide)),(c__law_is_urn.up (by decide)),(c__law_is_rule.up (by decide)),(c__law_is_draws.up (by decide)),(c_any_order.up (by decide)),c__law_refused⟩ ⟨cc,rfl,hcd⟩ hKb hbm
theorem walk {l:IW}{q:j9}{loose:List Str}{XP:(Str->Option d6)->Heap->Prop}{YP:t9->Heap->Prop}{d:DefRec}{K:Params->m9}(hn:l.most=some 63) (hdf:d.params.defaults=[])
  (hY:∀(w:t9) (h:Heap),YP w h->(K w.params).In h) (hT:∀(w:t9) (h:Heap),YP w h->∀t∈[T],h.get? t=some (DM #[]))
  (F:∀(w:t9) (mg:Str->Option d6) (fa:Addr) (h:Heap),(K w.params).In h->h.Ns u5 mg->mg d.name=some (.ref fa) ->
   ∃fd:C4,(∀(s:d7) (u:d6),rm s fd ⟨[u],[]⟩ [("_law_script",u)])/\((K w.params).lookup T=none/\∃c,jm (K w.params) c T=true)/\∀base:Heap,(K w.params).In base->base.Ns u5 mg->base.BuiltinsAt mg T->M0 l.prog w (K w.params) mg base cH 11 fa fd ["_law_script"] (xC (K w.params) T)):
  W.WalkO q loose XP YP l.row.toRowW d [] (fun f vs=>Ak f vs):=
 L2.AD (n:=63) (k:=11) (x:="_law_script") (ts:=[T]) (sp:=fun w=>xC (K w.params) T) hn (by decide) hdf ⟨rfl,by decide,by decide⟩ hY hT
  (fun w mg fa h kx ns hm=>by
   obtain ⟨fd,b1,b2,b3⟩:=F w mg fa h kx ns hm
   exact ⟨fd,b1,fun t ht=>by rw[List.mem_singleton.mp ht];exact b2,fun base k1 k2 k3=>b3 base k1 k2 (k3 T (List.mem_singleton.mpr rfl))⟩)
  (fun _ _ a ns hl hO hS=>⟨a,ns,rfl,hS,hl,⟨#[],hO.2 T (List.mem_singleton.mpr rfl),trivial,fun pos v e=>by cases e⟩,fun _=>rfl⟩)
end G
noncomputable def PySem.Challenge.cw_growurns_k42_draws_in_whatever_order_holds.tw4341695891475543859 : Unit:=()
noncomputable def PySem.Challenge.cw_growurns_k42_draws_in_whatever_order_holds.tw5566233637485089348 : Unit:=()
noncomputable def PySem.Challenge.cw_growurns_k42_draws_in_whatever_order_holds.tw15033677838359598425 : Unit:=()
noncomputable def PySem.Challenge.cw_growurns_k42_draws_in_whatever_order_holds.tw2343834123701019652 : Unit:=()
noncomputable def PySem.Challenge.cw_growurns_k42_draws_in_whatever_order_holds.tw6114983686482584244 : Unit:=()
noncomputable def PySem.Challenge.cw_growurns_k42_draws_in_whatever_order_holds.tw17646979161199335379 : Unit:=()
noncomputable def PySem.Challenge.cw_growurns_k42_draws_in_whatever_order_holds.tw14108771932629043971 : Unit:=()
noncomputable def PySem.Challenge.cw_growurns_k42_draws_in_whatever_order_holds.tw17041237741014588230 : Unit:=()
noncomputable def PySem.Challenge.cw_growurns_k42_draws_in_whatever_order_holds.tw14863349631741327634 : Unit:=()
noncomputable def PySem.Challenge.cw_growurns_k42_draws_in_whatever_order_holds.tw11503679160197177848 : Unit:=()
noncomputable def PySem.Challenge.cw_growurns_k42_draws_in_whatever_order_holds.tw3402418315508542617 : Unit:=()
noncomputable def PySem.Challenge.cw_growurns_k42_draws_in_whatever_order_holds.tw15193877406878396130 : Unit:=()
noncomputable def PySem.Challenge.cw_growurns_k42_draws_in_whatever_order_holds.tw14110749503876254356 : Unit:=()
noncomputable def PySem.Challenge.cw_growurns_k42_draws_in_whatever_order_holds.tw16843944968644983768 : Unit:=()
noncomputable def PySem.Challenge.cw_growurns_k42_draws_in_whatever_order_holds.tw7506198934189604588 : Unit:=()
noncomputable def PySem.Challenge.cw_growurns_k42_draws_in_whatever_order_holds.tw11773922202765141642 : Unit:=()
noncomputable def PySem.Challenge.cw_growurns_k42_draws_in_whatever_order_holds.tw424334377401389135 : Unit:=()
noncomputable def PySem.Challenge.cw_growurns_k42_draws_in_whatever_order_holds.tw1451995862349879918 : Unit:=()
noncomputable def PySem.Challenge.cw_growurns_k42_draws_in_whatever_order_holds.tw7928631646716461336 : Unit:=()
noncomputable def PySem.Challenge.cw_growurns_k42_draws_in_whatever_order_holds.tw8407116342681680296 : Unit:=()
noncomputable def PySem.Challenge.cw_growurns_k42_draws_in_whatever_order_holds.tw11839957911029668869 : Unit:=()
noncomputable def PySem.Challenge.cw_growurns_k42_draws_in_whatever_order_holds.tw873084782254364331 : Unit:=()
noncomputable def PySem.Challenge.cw_growurns_k42_draws_in_whatever_order_holds.tw15435934777231123994 : Unit:=()
noncomputable def PySem.Challenge.cw_growurns_k42_draws_in_whatever_order_holds.tw4885363862189460594 : Unit:=()
noncomputable def PySem.Challenge.cw_growurns_k42_draws_in_whatever_order_holds.tw5489399855083297827 : Unit:=()
noncomputable def PySem.Challenge.cw_growurns_k42_draws_in_whatever_order_holds.tw10108452104161669012 : Unit:=()
noncomputable def PySem.Challenge.cw_growurns_k42_draws_in_whatever_order_holds.tw1830866590957795130 : Unit:=()
noncomputable def PySem.Challenge.cw_growurns_k42_draws_in_whatever_order_holds.tw13522516016830120982 : Unit:=()
noncomputable def PySem.Challenge.cw_growurns_k42_draws_in_whatever_order_holds.tw13860898107297016355 : Unit:=()
noncomputable def PySem.Challenge.cw_growurns_k42_draws_in_whatever_order_holds.tw1505467753792614929 : Unit:=()
noncomputable def PySem.Challenge.cw_growurns_k42_draws_in_whatever_order_holds.tw3587913093350540499 : Unit:=()
noncomputable def PySem.Challenge.cw_growurns_k42_draws_in_whatever_order_holds.tw9527024234759457846 : Unit:=()
noncomputable def PySem.Challenge.cw_growurns_k42_draws_in_whatever_order_holds.tw9992304650121202070 : Unit:=()
noncomputable def PySem.Challenge.cw_growurns_k42_draws_in_whatever_order_holds.tw15150046443994318303 : Unit:=()
noncomputable def PySem.Challenge.cw_growurns_k42_draws_in_whatever_order_holds.tw7281259810217647958 : Unit:=()
noncomputable def PySem.Challenge.cw_growurns_k42_draws_in_whatever_order_holds.tw6242089659973832952 : Unit:=()
noncomputable def PySem.Challenge.cw_growurns_k42_draws_in_whatever_order_holds.tw14726161670275216242 : Unit:=()
noncomputable def PySem.Challenge.cw_growurns_k42_draws_in_whatever_order_holds.tw15863932064285129941 : Unit:=()
noncomputable def PySem.Challenge.cw_growurns_k42_draws_in_whatever_order_holds.tw11514284692129938188 : Unit:=()
noncomputable def PySem.Challenge.cw_growurns_k42_draws_in_whatever_order_holds.tw13390267906138188579 : Unit:=()
noncomputable def PySem.Challenge.cw_growurns_k42_draws_in_whatever_order_holds.tw7547979432220367819 : Unit:=()
noncomputable def PySem.Challenge.cw_growurns_k42_draws_in_whatever_order_holds.tw8138246032045284662 : Unit:=()
noncomputable def PySem.Challenge.cw_growurns_k42_draws_in_whatever_order_holds.tw13892225302242763983 : Unit:=()
noncomputable def PySem.Challenge.cw_growurns_k42_draws_in_whatever_order_holds.tw2944614039485412753 : Unit:=()
noncomputable def PySem.Challenge.cw_growurns_k42_draws_in_whatever_order_holds.tw13834031297993001781 : Unit:=()
noncomputable def PySem.Challenge.cw_growurns_k42_draws_in_whatever_order_holds.tw3640063570483864888 : Unit:=()
noncomputable def PySem.Challenge.cw_growurns_k42_draws_in_whatever_order_holds.tw8240897749568156810 : Unit:=()
noncomputable def PySem.Challenge.cw_growurns_k42_draws_in_whatever_order_holds.tw5787697609769025742 : Unit:=()
noncomputable def PySem.Challenge.cw_growurns_k42_draws_in_whatever_order_holds.tw372206794356764176 : Unit:=()
noncomputable def PySem.Challenge.cw_growurns_k42_draws_in_whatever_order_holds.tw8652129306687119542 : Unit:=()
noncomputable def PySem.Challenge.cw_growurns_k42_draws_in_whatever_order_holds.tw2317442951119901199 : Unit:=()
noncomputable def PySem.Challenge.cw_growurns_k42_draws_in_whatever_order_holds.tw17716195651029474890 : Unit:=()
noncomputable def PySem.Challenge.cw_growurns_k42_draws_in_whatever_order_holds.tw2880633912800284490 : Unit:=()
noncomputable def PySem.Challenge.cw_growurns_k42_draws_in_whatever_order_holds.tw8342468602294221928 : Unit:=()
noncomputable def PySem.Challenge.cw_growurns_k42_draws_in_whatever_order_holds.tw11228529174080332717 : Unit:=()
noncomputable def PySem.Challenge.cw_growurns_k42_draws_in_whatever_order_holds.tw1760312139215217030 : Unit:=()
noncomputable def PySem.Challenge.cw_growurns_k42_draws_in_whatever_order_holds.tw13806923026908149508 : Unit:=()
noncomputable def PySem.Challenge.cw_growurns_k42_draws_in_whatever_order_holds.tw177189892107274058 : Unit:=()
noncomputable def PySem.Challenge.cw_growurns_k42_draws_in_whatever_order_holds.tw15700207180254604472 : Unit:=()
noncomputable def PySem.Challenge.cw_growurns_k42_draws_in_whatever_order_holds.tw17801366104681068804 : Unit:=()
noncomputable def PySem.Challenge.cw_growurns_k42_draws_in_whatever_order_holds.tw9709978512864532203 : Unit:=()
noncomputable def PySem.Challenge.cw_growurns_k42_draws_in_whatever_order_holds.tw13375938672722388993 : Unit:=()
noncomputable def PySem.Challenge.cw_growurns_k42_draws_in_whatever_order_holds.tw17407332718689873209 : Unit:=()
noncomputable def PySem.Challenge.cw_growurns_k42_draws_in_whatever_order_holds.tw12100097652602382581 : Unit:=()
noncomputable def PySem.Challenge.cw_growurns_k42_draws_in_whatever_order_holds.tw14976041177571391270 : Unit:=()
noncomputable def PySem.Challenge.cw_growurns_k42_draws_in_whatever_order_holds.tw12415728260028276056 : Unit:=()
noncomputable def PySem.Challenge.cw_growurns_k42_draws_in_whatever_order_holds.tw11886591968716992397 : Unit:=()
noncomputable def PySem.Challenge.cw_growurns_k42_draws_in_whatever_order_holds.tw11147422135564272549 : Unit:=()
noncomputable def PySem.Challenge.cw_growurns_k42_draws_in_whatever_order_holds.tw1122465335937227800 : Unit:=()
noncomputable def PySem.Challenge.cw_growurns_k42_draws_in_whatever_order_holds.tw12082125023431808275 : Unit:=()
noncomputable def PySem.Challenge.cw_growurns_k42_draws_in_whatever_order_holds.tw17062331680654389874 : Unit:=()
noncomputable def PySem.Challenge.cw_growurns_k42_draws_in_whatever_order_holds.tw12607159335666997027 : Unit:=()
noncomputable def PySem.Challenge.cw_growurns_k42_draws_in_whatever_order_holds.tw12891653533726019326 : Unit:=()
noncomputable def PySem.Challenge.cw_growurns_k42_draws_in_whatever_order_holds.tw13266452087414073039 : Unit:=()
noncomputable def PySem.Challenge.cw_growurns_k42_draws_in_whatever_order_holds.tw10821539423578870713 : Unit:=()
noncomputable def PySem.Challenge.cw_growurns_k42_draws_in_whatever_order_holds.tw14718565155120836210 : Unit:=()
noncomputable def PySem.Challenge.cw_growurns_k42_draws_in_whatever_order_holds.tw18204605317912890711 : Unit:=()
noncomputable def PySem.Challenge.cw_growurns_k42_draws_in_whatever_order_holds.tw15307838055712721891 : Unit:=()
noncomputable def PySem.Challenge.cw_growurns_k42_draws_in_whatever_order_holds.tw16451876135618591671 : Unit:=()
noncomputable def PySem.Challenge.cw_growurns_k42_draws_in_whatever_order_holds.tw10791409114978845560 : Unit:=()
noncomputable def PySem.Challenge.cw_growurns_k42_draws_in_whatever_order_holds.tw3236088562332460578 : Unit:=()
noncomputable def PySem.Challenge.cw_growurns_k42_draws_in_whatever_order_holds.tw972397491369320081 : Unit:=()
noncomputable def PySem.Challenge.cw_growurns_k42_draws_in_whatever_order_holds.tw11369271698850070762 : Unit:=()
noncomputable def PySem.Challenge.cw_growurns_k42_draws_in_whatever_order_holds.tw3095157204935120836 : Unit:=()
noncomputable def PySem.Challenge.cw_growurns_k42_draws_in_whatever_order_holds.tw4854294526467203507 : Unit:=()
noncomputable def PySem.Challenge.cw_growurns_k42_draws_in_whatever_order_holds.tw6974303657337847804 : Unit:=()
noncomputable def PySem.Challenge.cw_growurns_k42_draws_in_whatever_order_holds.tw13772359362254553135 : Unit:=()
noncomputable def PySem.Challenge.cw_growurns_k42_draws_in_whatever_order_holds.tw18155823012191045075 : Unit:=()
noncomputable def PySem.Challenge.cw_growurns_k42_draws_in_whatever_order_holds.tw207276891200815870 : Unit:=()
noncomputable def PySem.Challenge.cw_growurns_k42_draws_in_whatever_order_holds.tw12720721382418164789 : Unit:=()
noncomputable def PySem.Challenge.cw_growurns_k42_draws_in_whatever_order_holds.tw15333163077586148203 : Unit:=()
noncomputable def PySem.Challenge.cw_growurns_k42_draws_in_whatever_order_holds.tw1741798245065679955 : Unit:=()
noncomputable def PySem.Challenge.cw_growurns_k42_draws_in_whatever_order_holds.tw12435478470661180622 : Unit:=()
noncomputable def PySem.Challenge.cw_growurns_k42_draws_in_whatever_order_holds.tw17120549316226763247 : Unit:=()
noncomputable def PySem.Challenge.cw_growurns_k42_draws_in_whatever_order_holds.tw18218104278116812843 : Unit:=()
noncomputable def PySem.Challenge.cw_growurns_k42_draws_in_whatever_order_holds.tw6147676799127575738 : Unit:=()
noncomputable def PySem.Challenge.cw_growurns_k42_draws_in_whatever_order_holds.tw16441061648251797392 : Unit:=()
noncomputable def PySem.Challenge.cw_growurns_k42_draws_in_whatever_order_holds.tw3240613302287176193 : Unit:=()
noncomputable def PySem.Challenge.cw_growurns_k42_draws_in_whatever_order_holds.tw1865193702303901265 : Unit:=()
noncomputable def PySem.Challenge.cw_growurns_k42_draws_in_whatever_order_holds.tw4341659917222659539 : Unit:=()
noncomputable def PySem.Challenge.cw_growurns_k42_draws_in_whatever_order_holds.tw16160625706272288335 : Unit:=()
noncomputable def PySem.Challenge.cw_growurns_k42_draws_in_whatever_order_holds.tw3490121271575468166 : Unit:=()
noncomputable def PySem.Challenge.cw_growurns_k42_draws_in_whatever_order_holds.tw13113421532044549649 : Unit:=()
noncomputable def PySem.Challenge.cw_growurns_k42_draws_in_whatever_order_holds.tw8484728465706763404 : Unit:=()
noncomputable def PySem.Challenge.cw_growurns_k42_draws_in_whatever_order_holds.tw17756922461298478750 : Unit:=()
noncomputable def PySem.Challenge.cw_growurns_k42_draws_in_whatever_order_holds.tw10236386469705611792 : Unit:=()
noncomputable def PySem.Challenge.cw_growurns_k42_draws_in_whatever_order_holds.tw10550466698140449475 : Unit:=()
noncomputable def PySem.Challenge.cw_growurns_k42_draws_in_whatever_order_holds.tw7137118292803632031 : Unit:=()
noncomputable def PySem.Challenge.cw_growurns_k42_draws_in_whatever_order_holds.tw15466214482639993237 : Unit:=()
noncomputable def PySem.Challenge.cw_growurns_k42_draws_in_whatever_order_holds.tw12101151991855252591 : Unit:=()
noncomputable def PySem.Challenge.cw_growurns_k42_draws_in_whatever_order_holds.tw12458806880832645343 : Unit:=()
noncomputable def PySem.Challenge.cw_growurns_k42_draws_in_whatever_order_holds.tw3608514004822765920 : Unit:=()
noncomputable def PySem.Challenge.cw_growurns_k42_draws_in_whatever_order_holds.tw8982750660452919767 : Unit:=()
noncomputable def PySem.Challenge.cw_growurns_k42_draws_in_whatever_order_holds.tw14161599720143430085 : Unit:=()
noncomputable def PySem.Challenge.cw_growurns_k42_draws_in_whatever_order_holds.tw11715617273160128793 : Unit:=()
noncomputable def PySem.Challenge.cw_growurns_k42_draws_in_whatever_order_holds.tw13671752654814929118 : Unit:=()
noncomputable def PySem.Challenge.cw_growurns_k42_draws_in_whatever_order_holds.tw14613328121440430682 : Unit:=()
noncomputable def PySem.Challenge.cw_growurns_k42_draws_in_whatever_order_holds.tw3480430329643179130 : Unit:=()
noncomputable def PySem.Challenge.cw_growurns_k42_draws_in_whatever_order_holds.tw14656151923923776796 : Unit:=()
noncomputable def PySem.Challenge.cw_growurns_k42_draws_in_whatever_order_holds.tw8575699427093087756 : Unit:=()
noncomputable def PySem.Challenge.cw_growurns_k42_draws_in_whatever_order_holds.tw10394890065207660819 : Unit:=()
noncomputable def PySem.Challenge.cw_growurns_k42_draws_in_whatever_order_holds.tw11872182677314866975 : Unit:=()
noncomputable def PySem.Challenge.cw_growurns_k42_draws_in_whatever_order_holds.tw9944628555384588844 : Unit:=()
noncomputable def PySem.Challenge.cw_growurns_k42_draws_in_whatever_order_holds.tw10738224879019091562 : Unit:=()
noncomputable def PySem.Challenge.cw_growurns_k42_draws_in_whatever_order_holds.tw7880272078152781769 : Unit:=()
noncomputable def PySem.Challenge.cw_growurns_k42_draws_in_whatever_order_holds.tw1335456563977413141 : Unit:=()
noncomputable def PySem.Challenge.cw_growurns_k42_draws_in_whatever_order_holds.tw8370886873273853844 : Unit:=()
noncomputable def PySem.Challenge.cw_growurns_k42_draws_in_whatever_order_holds.tw7350741169305006374 : Unit:=()
noncomputable def PySem.Challenge.cw_growurns_k42_draws_in_whatever_order_holds.tw13981248781634190827 : Unit:=()
noncomputable def PySem.Challenge.cw_growurns_k42_draws_in_whatever_order_holds.tw7528310784117125336 : Unit:=()
noncomputable def PySem.Challenge.cw_growurns_k42_draws_in_whatever_order_holds.tw14092860476994886910 : Unit:=()
noncomputable def PySem.Challenge.cw_growurns_k42_draws_in_whatever_order_holds.tw3943522117130476684 : Unit:=()
noncomputable def PySem.Challenge.cw_growurns_k42_draws_in_whatever_order_holds.tw1469709922254303018 : Unit:=()
noncomputable def PySem.Challenge.cw_growurns_k42_draws_in_whatever_order_holds.tw14454885733218562034 : Unit:=()
noncomputable def PySem.Challenge.cw_growurns_k42_draws_in_whatever_order_holds.tw16649986749597672917 : Unit:=()
noncomputable def PySem.Challenge.cw_growurns_k42_draws_in_whatever_order_holds.tw15920537349755065614 : Unit:=()
noncomputable def PySem.Challenge.cw_growurns_k42_draws_in_whatever_order_holds.tw1308466859833064 : Unit:=()
noncomputable def PySem.Challenge.cw_growurns_k42_draws_in_whatever_order_holds.tw10471267320963607556 : Unit:=()
noncomputable def PySem.Challenge.cw_growurns_k42_draws_in_whatever_order_holds.tw8596282300908069817 : Unit:=()
noncomputable def PySem.Challenge.cw_growurns_k42_draws_in_whatever_order_holds.tw15255462330841204088 : Unit:=()
noncomputable def PySem.Challenge.cw_growurns_k42_draws_in_whatever_order_holds.tw7304786698840485856 : Unit:=()
noncomputable def PySem.Challenge.cw_growurns_k42_draws_in_whatever_order_holds.tw4969501759908587464 : Unit:=()
noncomputable def PySem.Challenge.cw_growurns_k42_draws_in_whatever_order_holds.tw7247914138825286044 : Unit:=()
noncomputable def PySem.Challenge.cw_growurns_k42_draws_in_whatever_order_holds.tw292663156741293919 : Unit:=()
noncomputable def PySem.Challenge.cw_growurns_k42_draws_in_whatever_order_holds.tw2994615995603874024 : Unit:=()
noncomputable def PySem.Challenge.cw_growurns_k42_draws_in_whatever_order_holds.tw4773889797597410374 : Unit:=()
noncomputable def PySem.Challenge.cw_growurns_k42_draws_in_whatever_order_holds.tw17826974957445445104 : Unit:=()
noncomputable def PySem.Challenge.cw_growurns_k42_draws_in_whatever_order_holds.tw13684973108845130172 : Unit:=()
noncomputable def PySem.Challenge.cw_growurns_k42_draws_in_whatever_order_holds.tw10210242786728993648 : Unit:=()
noncomputable def PySem.Challenge.cw_growurns_k42_draws_in_whatever_order_holds.tw5966563394912295111 : Unit:=()
noncomputable def PySem.Challenge.cw_growurns_k42_draws_in_whatever_order_holds.tw16246377439586113549 : Unit:=()
noncomputable def PySem.Challenge.cw_growurns_k42_draws_in_whatever_order_holds.tw6789287076209139721 : Unit:=()
noncomputable def PySem.Challenge.cw_growurns_k42_draws_in_whatever_order_holds.tw9338348875107967950 : Unit:=()
noncomputable def PySem.Challenge.cw_growurns_k42_draws_in_whatever_order_holds.tw4232055740736124915 : Unit:=()
noncomputable def PySem.Challenge.cw_growurns_k42_draws_in_whatever_order_holds.tw9531981454499765971 : Unit:=()
noncomputable def PySem.Challenge.cw_growurns_k42_draws_in_whatever_order_holds.tw1388054060422672877 : Unit:=()
noncomputable def PySem.Challenge.cw_growurns_k42_draws_in_whatever_order_holds.tw14243294357723605019 : Unit:=()
noncomputable def PySem.Challenge.cw_growurns_k42_draws_in_whatever_order_holds.tw16728744498988150012 : Unit:=()
noncomputable def PySem.Challenge.cw_growurns_k42_draws_in_whatever_order_holds.tw17872286309331224217 : Unit:=()
noncomputable def PySem.Challenge.cw_growurns_k42_draws_in_whatever_order_holds.tw16479059682388908208 : Unit:=()
noncomputable def PySem.Challenge.cw_growurns_k42_draws_in_whatever_order_holds.tw1505649870366216028 : Unit:=()
noncomputable def PySem.Challenge.cw_growurns_k42_draws_in_whatever_order_holds.tw12413375989157126040 : Unit:=()
noncomputable def PySem.Challenge.cw_growurns_k42_draws_in_whatever_order_holds.tw12882690869494691694 : Unit:=()
noncomputable def PySem.Challenge.cw_growurns_k42_draws_in_whatever_order_holds.tw18432133288004061870 : Unit:=()
noncomputable def PySem.Challenge.cw_growurns_k42_draws_in_whatever_order_holds.tw10506064770801014158 : Unit:=()
noncomputable def PySem.Challenge.cw_growurns_k42_draws_in_whatever_order_holds.tw16162340277277396982 : Unit:=()
noncomputable def PySem.Challenge.cw_growurns_k42_draws_in_whatever_order_holds.tw9778836824097080565 : Unit:=()
set_option Elab.async true
open PySem PySem.W PyProof.Rows
set_option maxRecDepth 100000 in
set_option maxHeartbeats 0 in
theorem PySem.Challenge.cw_growurns_k42_draws_in_whatever_order_holds : PySem.Challenge.rw_growurns_k42_draws_in_whatever_order.Holds := by
 w_on;o_law;k_head;(case hw=>w_witness2)
 k_fill
 refine G.walk (l:=PySem.Challenge.rw_growurns_k42_draws_in_whatever_order) rfl rfl (fun w h Y=>W.km_in_of Y) (fun w h Y=>W.km_tabs_of Y) ?F
 case F =>
  intro w mg fa h KX NS hmg
  refine' G.Im KX NS hmg (G.ER KX NS ?e0 ?e1 ?e2 ?e3 ?e4 ?e5 ?e6 ?e7 ?e8 ?e9 ?eb ?eA ?eB ?eC) (G.E8 ?a1 ?l1 ?c1 ?k1) (G.E8 ?a2 ?l2 ?c2 ?k2) (G.E8 ?a3 ?l3 ?c3 ?k3) (G.E8 ?a4 ?l4 ?c4 ?k4) (G.E8 ?a5 ?l5 ?c5 ?k5) (G.E8 ?a6 ?l6 ?c6 ?k6) (G.E8 ?a7 ?l7 ?c7 ?k7) (G.E8 ?a8 ?l8 ?c8 ?k8) (G.E8 ?a9 ?l9 ?c9 ?k9) (G.E8 ?a10 ?l10 ?c10 ?k10) (G.E8 ?a11 ?l11 ?c11 ?k11) (G.E8 ?a12 ?l12 ?c12 ?k12) (G.E8 ?a13 ?l13 ?c13 ?k13) (G.E8 ?a14 ?l14 ?c14 ?k14) (G.E8 ?a15 ?l15 ?c15 ?k15) (G.E8 ?a16 ?l16 ?c16 ?k16) (G.E8 ?a17 ?l17 ?c17 ?k17) (G.E8 ?a18 ?l18 ?c18 ?k18) (G.E8 ?a19 ?l19 ?c19 ?k19) (G.E8 ?a20 ?l20 ?c20 ?k20) (G.E8 ?a21 ?l21 ?c21 ?k21) (G.E8 ?a22 ?l22 ?c22 ?k22) (G.E8 ?a23 ?l23 ?c23 ?k23) (G.E8 ?a24 ?l24 ?c24 ?k24) (G.E8 ?a25 ?l25 ?c25 ?k25) (G.E8 ?a26 ?l26 ?c26 ?k26) (G.E8 ?a27 ?l27 ?c27 ?k27) (G.E8 ?a28 ?l28 ?c28 ?k28) (G.E8 ?a29 ?l29 ?c29 ?k29) (G.E8 ?a30 ?l30 ?c30 ?k30) (G.E8 ?a31 ?l31 ?c31 ?k31) (G.E8 ?a32 ?l32 ?c32 ?k32) (G.E8 ?a33 ?l33 ?c33 ?k33) (G.E8 ?a34 ?l34 ?c34 ?k34) (G.E8 ?a35 ?l35 ?c35 ?k35) (G.E8 ?a36 ?l36 ?c36 ?k36) (G.E8 ?a37 ?l37 ?c37 ?k37) (G.E8 ?a38 ?l38 ?c38 ?k38) (G.E8 ?a39 ?l39 ?c39 ?k39) (G.E8 ?a40 ?l40 ?c40 ?k40) (G.E8 ?a41 ?l41 ?c41 ?k41) (G.E8 ?a42 ?l42 ?c42 ?k42) (G.EM ?la ?ll ?lc ?lk ?lt ?ln) ?z1 ?z2 ?z3 ?z4 ?z5 ?z6 ?z7 ?z8 ?z9 ?z10 ?z11 ?z12 ?z13 ?z14 ?z15 ?z16 ?zV ?m1 ?m2 ?m3 ?m4
  (case e0=>k_is);(case e1=>k_is);(case e2=>k_is);(case e3=>k_is);(case e4=>k_is);(case e5=>k_is);(case e6=>k_is);(case e7=>k_is);(case e8=>k_is);(case e9=>k_is);(case eb=>k_is)
  (case eA=>kernel_rfl)
  (case eB=>kernel_rfl)
  (case eC=>kernel_rfl)
  (case a1=>k_is);(case l1=>k_is);(case c1=>k_is);(case k1=>k_is)
  (case a2=>k_is);(case l2=>k_is);(case c2=>k_is);(case k2=>k_is)
  (case a3=>k_is);(case l3=>k_is);(case c3=>k_is);(case k3=>k_is)
  (case a4=>k_is);(case l4=>k_is);(case c4=>k_is);(case k4=>k_is)
  (case a5=>k_is);(case l5=>k_is);(case c5=>k_is);(case k5=>k_is)
  (case a6=>k_is);(case l6=>k_is);(case c6=>k_is);(case k6=>k_is)
  (case a7=>k_is);(case l7=>k_is);(case c7=>k_is);(case k7=>k_is)
  (case a8=>k_is);(case l8=>k_is);(case c8=>k_is);(case k8=>k_is)
  (case a9=>k_is);(case l9=>k_is);(case c9=>k_is);(case k9=>k_is)
  (case a10=>k_is);(case l10=>k_is);(case c10=>k_is);(case k10=>k_is)
  (case a11=>k_is);(case l11=>k_is);(case c11=>k_is);(case k11=>k_is)
  (case a12=>k_is);(case l12=>k_is);(case c12=>k_is);(case k12=>k_is)
  (case a13=>k_is);(case l13=>k_is);(case c13=>k_is);(case k13=>k_is)
  (case a14=>k_is);(case l14=>k_is);(case c14=>k_is);(case k14=>k_is)
  (case a15=>k_is);(case l15=>k_is);(case c15=>k_is);(case k15=>k_is)
  (case a16=>k_is);(case l16=>k_is);(case c16=>k_is);(case k16=>k_is)
  (case a17=>k_is);(case l17=>k_is);(case c17=>k_is);(case k17=>k_is)
  (case a18=>k_is);(case l18=>k_is);(case c18=>k_is);(case k18=>k_is)
  (case a19=>k_is);(case l19=>k_is);(case c19=>k_is);(case k19=>k_is)
  (case a20=>k_is);(case l20=>k_is);(case c20=>k_is);(case k20=>k_is)
  (case a21=>k_is);(case l21=>k_is);(case c21=>k_is);(case k21=>k_is)
  (case a22=>k_is);(case l22=>k_is);(case c22=>k_is);(case k22=>k_is)
  (case a23=>k_is);(case l23=>k_is);(case c23=>k_is);(case k23=>k_is)
  (case a24=>k_is);(case l24=>k_is);(case c24=>k_is);(case k24=>k_is)
  (case a25=>k_is);(case l25=>k_is);(case c25=>k_is);(case k25=>k_is)
  (case a26=>k_is);(case l26=>k_is);(case c26=>k_is);(case k26=>k_is)
  (case a27=>k_is);(case l27=>k_is);(case c27=>k_is);(case k27=>k_is)
  (case a28=>k_is);(case l28=>k_is);(case c28=>k_is);(case k28=>k_is)
  (case a29=>k_is);(case l29=>k_is);(case c29=>k_is);(case k29=>k_is)
  (case a30=>k_is);(case l30=>k_is);(case c30=>k_is);(case k30=>k_is)
  (case a31=>k_is);(case l31=>k_is);(case c31=>k_is);(case k31=>k_is)
  (case a32=>k_is);(case l32=>k_is);(case c32=>k_is);(case k32=>k_is)
  (case a33=>k_is);(case l33=>k_is);(case c33=>k_is);(case k33=>k_is)
  (case a34=>k_is);(case l34=>k_is);(case c34=>k_is);(case k34=>k_is)
  (case a35=>k_is);(case l35=>k_is);(case c35=>k_is);(case k35=>k_is)
  (case a36=>k_is);(case l36=>k_is);(case c36=>k_is);(case k36=>k_is)
  (case a37=>k_is);(case l37=>k_is);(case c37=>k_is);(case k37=>k_is)
  (case a38=>k_is);(case l38=>k_is);(case c38=>k_is);(case k38=>k_is)
  (case a39=>k_is);(case l39=>k_is);(case c39=>k_is);(case k39=>k_is)
  (case a40=>k_is);(case l40=>k_is);(case c40=>k_is);(case k40=>k_is)
  (case a41=>k_is);(case l41=>k_is);(case c41=>k_is);(case k41=>k_is)
  (case a42=>k_is);(case l42=>k_is);(case c42=>k_is);(case k42=>k_is)
  (case la=>k_is);(case ll=>k_is);(case lc=>k_is);(case lk=>k_is);(case lt=>kernel_rfl);(case ln=>kernel_rfl)
  (case z1=>k_is);(case z2=>k_is);(case z3=>k_is);(case z4=>k_is);(case z5=>k_is);(case z6=>k_is);(case z7=>k_is);(case z8=>k_is);(case z9=>k_is);(case z10=>k_is);(case z11=>k_is);(case z12=>k_is);(case z13=>k_is);(case z14=>k_is);(case z15=>k_is);(case z16=>k_is);(case zV=>k_is)
  (case m1=>k_is);(case m2=>k_is);(case m3=>k_is);(case m4=>k_is)
#print axioms PySem.Challenge.cw_growurns_k42_draws_in_whatever_order_holds
