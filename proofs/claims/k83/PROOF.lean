import PyProof.Rows.All
import Wide.All
import OpenK.AllK
import Wide.FinOn
import Lean
import PyProof.EqAt
import PyProof.EqKinds
import PyProof.TupleCall
import KE.KIsAll
import KE.KLam
import KE.KTryDeep
import PyProof.ExcAttrAll.ValueError
import KE.KSortTup
import KE.KItemsList
import PyProof.Rows.SortRuns
import KE.KDictList
import PyProof.Rows.SortStr
import PyProof.Rows.SetFrom
import PyProof.FactsAll.set
import PySem.Challenge.RW_growurns_k83_whole_two_urns
open PySem renaming wpAny_bind→b5,Value→b8,Shared→b9,wpAny_pure→d5,Program→f6,wpAny→i5,sizeLine→i8,World→j6,model→n0,Around→r6,mainGlobals→r9,PyData→w6,wpAny_field→y4,wpAny_call_entry→y6,wpAny_newObj_type→A1,wpAny_callSpecial?_slot→A4,FuncData→A7,wpAny_setField_rec→B1,starEach→B5,wpAny_mono→F9,boot_len→J9,sysModules→K1,sizeLine_eq→K3,wpAny_rule→L1,cellsFrom→L4,wpAny_holding→M7,DictEntry→N3,wpAny_truthy_bool→P4,compareOp→P5,Scope→Q2,cLine→R8,wpAny_seqItems→S0,bootBuiltins→T7,wpAny_attempt→U5,wpAny_typeNameOfWhole_itemiter→V4,wpAny_setField→V5,wpAny_isInstance→V6,rawInt→V7,binaryOp→V9,NameKind→W2,wpAny_typeNameOfWhole_keyiter→X5,wpAny_pyIter_tuple→X8,wpAny_passesOwn→Y2,wpAny_dictEntries→Z1,Builtin→Z3,mem_of_lookup→Z6,pyNext→ah,wpAny_typeNameOf_itemiter→aG,wpAny_typeNameOf_keyiter→aM,behindInMarks→aN,wpAny_dictEpoch→aW,IsItemIter→bo,firstArgMember→bM,backTo→bN,Paired→bO,assignEach→cD,wpAny_specialOf→cX,wpAny_newTuple→eh,getItem→fk,tupleKind→fR,pushCells→fS,wpAny_isOneOf_itemiter→gN,wpAny_loadPart'→iC,wpAny_execs_nil→iE,letOwnedTupleGo→iG,isSubtype_tuple_tuple→iK,wpAny_fieldsOf→jL,setField→jM,pyIter→jN,isSubtype_stop→jO,IsPart→jP,wpAny_standAt→lQ,wpAny_newList→lR,strLen_append→lS,field→lU,atKey→lV,Model→lW,wpAny_tupleItemsOf→lZ,wpAny_Call_Name_kw→md,tupleKind_room_in1→me,assign→mh,Result→mj,IsPair→mq,wpAny_pyIter_slot→nJ,wpAny_pyIter_list→nK,valueAt→nL,relabel→nM,foldedSetIterable→nN,codeAny_mono→nP,codeAny→nQ,callerA→nR,call_meetsIn→nS,BindsTo→og,swapsWith→qI,noFill_tuple_add→qJ,wpAny_letGo→sT,subscripted→sU,pushCells_keeps→tH,argBest→vd,Keyword→vi,wpAny_newFunctionEnv_cells→wG,newFunctionEnv→wH,builtinsNs→wI,IsZip→wN,wpAny_onRaise→xS,wpAny_handled→xT,wpAny_comprehension_free→xU,seq_tuple_add→xW,attributeBase→xX,assignInOrder→xY,call→yc,IsItemIterOut→ye,meetsH_dict_get_default→Ad,eqIsQuiet→Ae,bindL→Af,bindC→Ag,wpAny_typeOf→Ap,wpAny_Assign_Subscript→Aq,seqIndex_neg→Au,newExc→Av,concat_meets→Ax,collect→Ay,seqSlot_of→AC,IsEnum→AH,wpAny_notOrdered_dict→BW,wpAny_isTrue_Compare1→BX,wpAny_isOneOf_keyiter→BZ,codeAny_call_function→Ca,wpAny_updateSeq_pair→Cy,wpAny_throw→Cz,wpAny_of_eq→CA,seqIndex_of→CB,newTuple→CC,bindName→CF,GenState→CK,CmpOp→CM,wpAny_setItem_heap→ER,wpAny_getItem_heap→ES,wpAny_Name→ET,typeLookup→EU,reduceHash→EV,isTrue→EW,isInstance→EX,entryOfKey→EY,call_meets→EZ,Within→Fj,wpAny_sequenceKey→GY,wpAny_pyIter_enum→GZ,wpAny_assign_Name→Hc,wpAny_Call_method→He,storedH→Hh,leaving→Ht,holding→Hu,Meets→HC,wpAny_pyIter_zip→HR,wpAny_forIn_list→HS,wpAny_execs_cons→HU,wpAny_Dict_empty→HV,setFlight→HX,noteFrame→HY,joinParts→HZ,IsEnumOut→Ik,Arguments→Im
open List renaming length_map→b7,getElem?_eq_getElem→d0,mem_cons_self→f7,mem_cons_of_mem→i3,size_toArray→j0,map_append→j7,map_cons→j8,getElem?_map→m7,length_take→m8,length_append→n8,length_cons→p4,mem_append_right→r0,take_add_one→t6,mem_of_getElem?→t7,getD_eq_getElem?_getD→t8,take_length→u5,mem_of_mem_take→v7,mem_cons→y3,take_append_drop→y7,length_drop→A6,map_map→B6,take_of_length_le→C1,getElem_mem→C4,replicate→E4,not_mem_nil→E5,mem_append_left→E9,getElem?_set_ne→F0,lookup_cons→F6,range→G5,getElem?_drop→G6,nodup_cons→K4,getElem?_take→K6,mem_of_mem_drop→K8,pairwise_map→L6,drop_zero→L7,drop_eq_nil_of_le→L8,length_nil→M4,toArray→N8,all_map→N9,find?_cons→O7,map_congr_left→P1,sum_cons→P8,append_assoc→S3,cons_append→U1,all_eq_true→U2,forIn_cons→W4,append_nil→W5,perm_append_comm→X6,forIn_nil→Y5,length_zipWith→aa,zip_cons_cons→aH,getElem?_eq_none→bD,getElem_toArray→cc,length_set→cC,reverse_append→cE,getElem_of_mem→cF,filterMap_cons→cG,mem_or_eq_of_mem_set→dw,map_id→dF,of_mem_zip→fC,length_replicate→fI,getElem?_zipWith→fJ,length→gG,drop_drop→gH,take→gQ,drop→gS,getElem?_range→iJ,any_cons→iM,ext_getElem?→jZ,zipIdx_cons→lX,drop_append_of_le_length→mn,range_succ→mI,take_take→qB,pairwise_singleton→tJ,mem_singleton_self→tL,map_set→vf,map_nil→vg,getElem?_set_self→vh,length_singleton→wM,reverse_reverse→xN,map_inj_right→Aj,foldl→Ak,zip_nil_left→AD,take_sublist→AE,length_range→AF,any_eq_false→AG,map_snd_zip→Cb,getElem_map→Cc,getElem_inj→Cd,countP_cons→Ce,any_eq_true→Cf,zipIdx_nil→CI,sum_append→CJ,nodup_nil→EA,zipWith→HD,map_id'→HE
open PySem.Heap renaming get?_push_of_some→d6,lt_size→i4,get?_push_size→n5,size_push→C0,SameBut→D0,get?_update_other→P6,get?_update_self→X7,ExtBut→gI,get?_none_of_le→xO,IsTuple→HF
open PyProof.Rows renaming wpS_bind→d7,wpS_pure→i7,Keyed→i9,wpS_forRange→C8,SortSt→C9,wpS_modify→D3,mirror→G0,boot_tuple→N0,seqObj→O8,wpS_mono→Q1,slot_tuple_getitem→Q8,wpS_get→S2,pendingOf→T4,IntsAre→T8,callWith_type1→U6,envOfC→V8,arrOf→W0,failedOf→Y3,SortKind→aO,wpS_lift→cO,AllBare→fm,boot_sum→fT,get?_update_seq→iH,boot_isinstance→iI,listUpdate_at→lT,assignInOrder_cons→mf,seqEpoch_at→sV,IsTup→wO,subscriptTail→xV,subscriptTail_builtinR→Ar,minRun'_succ→Aw,boot_int→CD,getElem?_mirror_all→Et,entry_tuple_getitem→Eu,args_tuple_getitem→Fb,Subscript_→Fh,minRun'→Hi,assignInOrder_nil→Hv,sortRuns'→HW
open Nat renaming le_refl→d9,le_trans→f9,zero_le→j5,ne_of_lt→q9,mul_le_mul→u4,pow_le_pow_right→u6,le_add_right→u9,lt_of_lt_of_le→w9,mul_le_mul_left→B0,ne_of_gt→B4,pow_add→D5,lt_of_le_of_lt→F3,le_add_left→K5,lt_succ_of_lt→L9,pos_of_ne_zero→N6,le_of_lt→O3,lt_succ_self→Q3,zero_add→S6,pow_lt_pow_right→S7,lt_irrefl→T3,mul_add→V1,mul_ne_zero→X0,lt_succ_of_le→Y1,le_succ→Y6,mul_pos→aK,log2_lt→ck,one_mul→gP,sub_zero→kE,min_eq_left→nW,pow_succ→wL,not_succ_le_self→yd,add_le_add_left→Ai,le_of_not_lt→CH,max_eq_left→Ez,min_self→Ie,lt_trans→Ig,lt_or_ge→Ih,le_of_eq→Ii,gcd_comm→Ij
open PySem.Value renaming ref→j3,none→A5,int→ky,bool→nV,str→sW,notImplemented→wJ,isStrOf→Ex,isInt→Hy,float→Hz,type→Ic
open PySem.W renaming Frag→m6,mg_none_of→G1,nsIn→P2,kia_one→ai,mg_of→cB,keepIn→dB,findIn→fB,fnOf→fU,kitOne→iL,kat_cons→kr,codeIn→mi,cellsFrom_some→nU,specialIn→Az,methodObj→AA,excIn→Ew,kat_yes→Fc,kat_one→Fd,kat_nil→Fe,instObj→Ff,OpenLaw→Fg,lookIn→Ia,kat_no→Ib
open PyProof.Rows.SortSt renaming mk'→n6
open Bool renaming false_ne_true→n9,and_eq_true→u7,false_eq_true→N5,false_and→Q7,not_eq_true'→S4,eq_iff_iff→W9,true_and→ar,not_true→iQ,not_eq_false'→jE,false_or→tq,true_or→vj
open Or renaming inl→t5,inr→bZ
open PySem.Builtin.Int renaming intBits→t9
open Array renaming length_toList→A8,getElem?_eq_getElem→B9,toList_append→C7,getElem?_eq_none→aP,toList_reverse→bQ,toList_push→dz,getElem?_toList→fE,forIn_toList→iR,size_extract→yj,getD→yk,toList_zip→AJ,toList→Fs
open Int renaming le_trans→B7,natAbs_natCast→K7,gcd→O4,toNat_natCast→S8,le_of_lt→S9,natAbs_mul→U7,emod_lt_of_pos→W3,natCast_mul→X2,emod_nonneg→aI,le_refl→aL,mul_nonneg→bp,fdiv_eq_ediv_of_nonneg→qK,gcd_zero_right→AI,natCast_add→EB,ediv_nonneg→EC,add_nonneg→Fm,zero_add→Il
open PySem.Builtin.SmallTypes renaming nextOf→C3,ownedTupleIsFree→D7,ownedTupleHandOut→M9
open PySem.PyData renaming eqvAll→E1,canLayAll0→E6,int→E8,depthAll→F4,canLay0→J7,depth→R9,eqv→aq
open Option.some renaming inj→E2
open PySem.PassesOwn renaming never→E3
open PySem.Paired renaming length→G3,snoc→Fk
open PySem.Heap.SameBut renaming update→G7
open Ne renaming symm→G8
open PySem.Builtin.Dict_items renaming ownsTuple→M3,ownedTupleIsFree→cZ,ownedTupleFields→dc,pairFromOwner→dZ
open PySem.Str renaming ofString→O1
open PySem.Obj renaming mapFields→O2,mapSeq→Q9,data_mapFields→R0,isFreed_of_fields→bJ,cls_mapFields→kD
open PySem.NameKind renaming free→O9,cell→bj
open Option renaming map_eq_some_iff→P0,map_some→aj,isSome_map→jD,map→xK,isSome_some→xM,none→Fl
open List.Pairwise renaming imp_of_mem→Q4,nil→U3,sublist→lY
open PySem.SeqAt renaming shaped→S1,EqAt→ya
open False renaming elim→U8
open True renaming intro→V0
open PySem.F renaming slot_dict_get→W1,slot_dict_itemiterator_next→W6,slot_dict_keyiterator_next→X9,slot_tuple_iterator_next→Z7,slot_enumerate_next→cf,args_tuple_add_2→cY,plainAttrs_dict→dC,entry_tuple_add→dD,args_dict_get_3→dE,slot_tuple_add→ei,entry_dict_get→ej,slot_zip_next→gJ,args_dict_itemiterator_next_1→mJ,entry_dict_itemiterator_next→nX,args_dict_keyiterator_next_1→nY,slot_dict_items→qA,slot_dict_itemiterator_iter→qC,entry_dict_keyiterator_next→qD,args_tuple_iterator_next_1→qL,type_dict_get→tf,entry_tuple_iterator_next→tm,args_enumerate_next_1→xP,slot_dict_items_iter→yg,entry_enumerate_next→yh,args_tuple_mul_2→CL,slot_tuple_hash→ED,plain_list_iadd→EE,entry_tuple_mul→EF,args_zip_next_1→EG,slot_tuple_mul→Fo,slot_dict_iter→Fp,entry_zip_next→Fq,slot_tuple_eq→HG,slot_int_rmul→HH
open PySem.Builtin.Tuple renaming tupleHashOf→W7,tupleExact→Y0,tupleItemsOf→bE,tupleIsExact→iO
open PySem.Builtin.Slice renaming slicePlaces→W8,sliceAdjust→bP,sliceApplied→iP
open List.Perm renaming refl→X1,nodup_iff→tj,map→Al
open ForInStep renaming yield→Z2,done→yf
open PySem.AutoSeq1 renaming wpAny_loadPart'→Z4
open PySem.Calls renaming spliced_cons→au,callWith_builtin→eC,evalArgs_plain→fV,spliced_nil→jQ,Name_function_global→nZ,call_function_entry→qF,Constant_str→yi
open PySem.Builtin.Dict renaming showsAll→av
open Sum renaming inl→bh,inr→kA
open PySem.SeqAt.EqAt renaming int_int→bX,of_refs→sZ,same→wK
open PySem.DictEntry renaming key→fK
open PySem.Shared renaming TypeIs→gO,heap→ve
open PySem.pyHashByItsType renaming reduced→jB
open Rat renaming mkRat_def→jC,zero_add→kB,add_zero→kC,mul_le_mul_of_nonneg_right→ml,mul_one→yb,mkRat_eq_iff→CG,mul_nonneg→Fi
open PyProof.Rows.IsTup renaming new→kF
open PySem.Builtin.List renaming listUpdate→kG
open PySem.EntryCells renaming newEntry→qM
open PySem.SeqAt.RcAt renaming tuples→tI
open Bind renaming bind→tM
open PySem.Around renaming under_plainId→vk
open Prod renaming ext→xJ,fst→Ey
open PySem.W.KatTups renaming cons→xZ,nil→Ah
open StateT renaming run_pure→AB
open PySem.W.WShape renaming has→Hw
open PySem.CmpOp renaming NotIn→HI
set_option Elab.async false
set_option linter.all false
set_option maxRecDepth 100000
namespace L2
open PySem PySem.Spec PyProof.Rows
noncomputable abbrev V3:=Sum Int Str
noncomputable def nA:V3->b8->Bool
 | .inl k,v=>Hy k v
 | .inr x,v=>Ex x v
noncomputable def keyH (w:j6):V3->Int
 | .inl k=>hashInt k
 | .inr x=>hashStr w x
theorem R7:∀{k:V3}{v:b8},nA k v=true->(∃i t,k=bh i/\v=ky i t) ∨ (∃x t,k=kA x/\v=sW x t)
 | .inl i,v,h=>by
  obtain ⟨t,e⟩:=Value.isInt_shape (k:=i) (v:=v) h
  exact .inl ⟨i,t,rfl,e⟩
 | .inr x,v,h=>by
  obtain ⟨t,e⟩:=Value.isStrOf_shape (x:=x) (v:=v) h
  exact .inr ⟨x,t,rfl,e⟩
theorem xu (i:Int) (t:Tok):nA (.inl i) (.int i t)=true:=by simp[nA,Hy]
theorem xt (x:Str) (t:Tok):nA (.inr x) (.str x t)=true:=by simp[nA,Ex]
theorem DP (a b:Int):decide ((bh a:V3)=bh b)=(a == b):=by
 by_cases e:a=b
 ·subst e;simp
 ·have h:¬ (bh a:V3)=bh b:=fun q=>e (Sum.inl.inj q)
  rw[decide_eq_false h]
  exact (beq_eq_false_iff_ne.mpr e).symm
theorem DL (a b:Str):decide ((kA a:V3)=kA b)=decide (a=b):=by
 by_cases e:a=b
 ·subst e;simp
 ·have h:¬ (kA a:V3)=kA b:=fun q=>e (Sum.inr.inj q)
  rw[decide_eq_false h,decide_eq_false e]
theorem DN (a:Int) (b:Str):decide ((bh a:V3)=kA b)=false:=decide_eq_false (fun q=>nomatch q)
theorem DM (a:Str) (b:Int):decide ((kA a:V3)=bh b)=false:=decide_eq_false (fun q=>nomatch q)
noncomputable def R6 (prog:f6) (w:j6):PySem.KeyKind prog w V3 where
 is:=nA
 hash:=keyH w
 inj:=fun v a b ha hb=>by
  rcases R7 ha with ⟨i,t,rfl,rfl⟩|⟨x,t,rfl,rfl⟩
  ·rcases R7 hb with ⟨j,u,rfl,e⟩|⟨y,u,rfl,e⟩
   ·injection e with e1 _;rw[e1]
   ·exact nomatch e
  ·rcases R7 hb with ⟨j,u,rfl,e⟩|⟨y,u,rfl,e⟩
   ·exact nomatch e
   ·injection e with e1 _;rw[e1]
 byValue:=fun k v h=>by
  rcases R7 h with ⟨i,t,rfl,rfl⟩|⟨x,t,rfl,rfl⟩ <;> rfl
 pyHash:=fun hv h=>by
  rcases R7 hv with ⟨i,t,rfl,rfl⟩|⟨x,t,rfl,rfl⟩
  ·exact wpAny_pyHash_int h
  ·exact wpAny_pyHash_str h
 eqBool:=fun hu hv h=>by
  rcases R7 hu with ⟨i,t,rfl,rfl⟩|⟨x,t,rfl,rfl⟩
  ·rcases R7 hv with ⟨j,u,rfl,rfl⟩|⟨y,u,rfl,rfl⟩
   ·rw[DP] at h;exact wpAny_eqBool_int h
   ·rw[DN] at h;exact SeqAt.EqAt.int_str i t y u _ _ _ _ h
  ·rcases R7 hv with ⟨j,u,rfl,rfl⟩|⟨y,u,rfl,rfl⟩
   ·rw[DM] at h;exact SeqAt.EqAt.str_int x t j u _ _ _ _ h
   ·rw[DL] at h;exact wpAny_eqBool_str h
 «strs»:=fun k x t v h=>by
  rcases R7 h with ⟨i,u,rfl,e⟩|⟨y,u,rfl,e⟩
  ·exact nomatch e
  ·injection e with e1 _
   subst e1
   cases v <;> rfl
theorem rT (prog:f6) (w:j6) (i:Int) (t:Tok):(R6 prog w).is (.inl i) (.int i t)=true:=xu i t
theorem rR (prog:f6) (w:j6) (x:Str) (t:Tok):(R6 prog w).is (.inr x) (.str x t)=true:=xt x t
inductive V where
 | non|bl (b:Bool)|int (i:Int)|str (x:Str)|byt (b:Array UInt8)|flt (b:UInt64)|ref (a:Addr)|ty (n:String)
 deriving DecidableEq
noncomputable def J3:V->b8->Prop
 | .non,u=>u=A5
 | .bl b,u=>u=nV b
 | .int i,u=>∃t,u=ky i t
 | .str x,u=>∃t,u=sW x t
 | .byt b,u=>∃t,u=Value.bytes b t
 | .flt b,u=>∃t,u=Hz b t
 | .ref a,u=>u=j3 a
 | .ty n,u=>u=Ic n
noncomputable abbrev J2:List V->List b8->Prop:=bO J3
theorem J2.length {xs:List V}{us:List b8} (r:J2 xs us):xs.length=us.length:=G3 r
theorem J2.get:∀{xs:List V}{us:List b8}{i:Nat}{x:V},J2 xs us->xs[i]?=some x->∃u,us[i]?=some u/\J3 x u
 | _,_,_,_,.nil,e=>by simp at e
 | _,_,0,_,.cons r _,e=>by simp at e;subst e;exact ⟨_,rfl,r⟩
 | _,_,i+1,x,.cons _ t,e=>by
  obtain ⟨u,h1,h2⟩:=J2.get (i:=i) (x:=x) t (by simpa using e)
  exact ⟨u,by simpa using h1,h2⟩
theorem J2.set {x:V}{u:b8} (r:J3 x u):∀{xs:List V}{us:List b8} (i:Nat),J2 xs us->J2 (xs.set i x) (us.set i u)
 | _,_,_,.nil=>.nil
 | _,_,0,.cons _ t=>.cons r t
 | _,_,i+1,.cons q t=>.cons q (J2.set r i t)
theorem J2.append:∀{xs ys:List V}{us ws:List b8},J2 xs us->J2 ys ws->J2 (xs++ys) (us++ws)
 | _,_,_,_,.nil,s=>s
 | _,_,_,_,.cons r t,s=>.cons r (J2.append t s)
theorem J2.take:∀{xs:List V}{us:List b8} (n:Nat),J2 xs us->J2 (xs.take n) (us.take n)
 | _,_,0,_=>.nil
 | _,_,_+1,.nil=>.nil
 | _,_,n+1,.cons r t=>.cons r (J2.take n t)
theorem J2.drop:∀{xs:List V}{us:List b8} (n:Nat),J2 xs us->J2 (xs.drop n) (us.drop n)
 | _,_,0,r=>r
 | _,_,_+1,.nil=>.nil
 | _,_,n+1,.cons _ t=>J2.drop n t
noncomputable def jy:Option V->Option b8->Prop
 | some v,some u=>J3 v u
 | none,none=>True
 | _,_=>False
noncomputable def KV {κ:Type}:List (κ × V)->List (κ × b8)->Prop:=bO fun (p:κ × V) (q:κ × b8)=>p.1=q.1/\J3 p.2 q.2
noncomputable def kV:V3->V
 | .inl i=>.int i
 | .inr x=>.str x
inductive HO where
 | lst (xs:List V)
 | tup (xs:List V)
 | dK (kvs:List (V3 × V))|dT (kvs:List (List V3 × V))
 | set (S:Int->Bool) (n:Nat)
 | ins (C dx:Addr) (fs:List (Str × V))
 | own (x:Addr)
 | xd (fs:List (Str × V))
 | met (f x:Addr)
 | rng (lo hi:Int)
 | frz (o:Obj) (u:HO)
 | tbl (ps:Array b8)
 | ext (φ:Heap->Prop)
noncomputable abbrev Hp:=Addr->Option HO
noncomputable def v8 (H:Hp) (a:Addr) (o:HO):Hp:=fun b=>if b=a then some o else H b
variable {H:Hp}{a:Addr}{o:HO}
theorem i6 :v8 H a o a=some o:=by unfold v8;rw[if_pos rfl]
variable {b:Addr}
theorem A3 (h:b≠a):v8 H a o b=H b:=by unfold v8;rw[if_neg h]
theorem rQ {u:HO} (h:H a=some o) (h':H b=some u) (d:o≠u):a≠b:=by
 intro e;subst e;rw[h] at h';exact d (E2 h')
theorem u3 (h:H a=some o) (h':H b=none):a≠b:=by
 intro e;subst e;rw[h] at h';cases h'
section
variable (P:f6) (w:j6)
noncomputable def J8 (H:Hp) (h:Heap) (a:Addr):HO->Prop
 | .lst xs=>xs.length<=i8/\∃(its:List b8) (n:Nat),J2 xs its/\h.get? a=some { cls:=.type "list",data:=.seq its.toArray n }
 | .tup xs=>xs.length<=i8/\∃its:List b8,J2 xs its/\wO h a its.toArray
 | .dK kvs=>kvs.length<=i8/\(a == K1)=false/\∃vs,KV kvs vs/\h.DictOf (R6 P w) a vs
 | .dT kvs=>kvs.length<=i8/\(a == K1)=false/\∃xs:List (List V3 × Addr × b8),
   bO (fun (p:List V3 × V) (q:List V3 × Addr × b8)=>p.1=q.1/\H q.2.1=some (.tup (p.1.map kV))/\J3 p.2 q.2.2) kvs xs /\
   ∃o es ep,h.get? a=some o/\o.ExactDict/\o.data=.dict es ep/\es.toList=xs.map (EY (fR (R6 P w)))/\(xs.map (·.1)).Nodup
 | .set S n=>h.SetOf (intKind P w) a S n
 | .ins C dx fs=>H dx=some (.own a)/\fs.length<=1000/\dx≠a/\h.get? a=some (Ff C dx) /\
   ∃mA,h.Ns1 dx mA/\(∀f,jy (fs.lookup f) (mA f))/\Fj mA (fs.map (·.1))
 | .own _=>∃o,h.get? a=some o
 | .xd fs=>∃mA,h.Ns1 a mA/\∀f,jy (fs.lookup f) (mA f)
 | .rng lo hi=>∃t u v,h.get? a=some { cls:=.type "range",data:=.fields #[.int lo t,.int hi u,.int 1 v] }
 | .frz o u=>h.get? a=some o/\J8 H h a u
 | .tbl ps=>h.get? a=some { cls:=.none,data:=.fields ps }
 | .met f x=>h.get? a=some (AA (.ref f) (.ref x))
 | .ext φ=>φ h/\(∃o,h.get? a=some o)/\∀h1 h2:Heap,φ h1->(∀o,h1.get? a=some o->h2.get? a=some o)->φ h2
noncomputable def cW (H:Hp) (h:Heap):Prop:=∀a o,H a=some o->J8 P w H h a o
end
section
variable {P:f6}{w:j6}{H H':Hp}{h h':Heap}{a:Addr}{o:HO}
theorem J8.lt (x:J8 P w H h a o):a<h.objs.size:=by
 cases o with
 | lst xs=>obtain ⟨_,_,_,_,e⟩:=x;exact i4 e
 | tup xs=>obtain ⟨_,_,_,p⟩:=x;exact p.lt
 | dK kvs=>obtain ⟨_,_,_,_,o,_,_,e,_⟩:=x;exact i4 e
 | dT kvs=>obtain ⟨_,_,_,_,o,_,_,e,_⟩:=x;exact i4 e
 | set S n=>obtain ⟨o,_,_,_,e,_⟩:=x;exact i4 e
 | ins C dx fs=>obtain ⟨_,_,_,e,_⟩:=x;exact i4 e
 | own y=>obtain ⟨_,e⟩:=x;exact i4 e
 | xd fs=>obtain ⟨_,⟨_,_,_,e,_⟩,_⟩:=x;exact i4 e
 | rng lo hi=>obtain ⟨_,_,_,e⟩:=x;exact i4 e
 | frz ob u=>obtain ⟨e,_⟩:=x;exact i4 e
 | tbl ps=>exact i4 (show h.get? a=some _ from x)
 | met f y=>exact i4 (show h.get? a=some _ from x)
 | ext φ=>obtain ⟨_,⟨_,e⟩,_⟩:=x;exact i4 e
theorem Paired.mapP {α β:Type}{F G:α->β->Prop}:∀{l₁:List α}{l₂:List β},bO F l₁ l₂->(∀a b,F a b->G a b)->bO G l₁ l₂
 | _,_,.nil,_=>.nil
 | _,_,.cons r t,f=>.cons (f _ _ r) (Paired.mapP t f)
theorem J8.stay (x:J8 P w H h a o) (k:∀b u,(b=a ∨ H b=some (.own a))->h.get? b=some u->h'.get? b=some u)
  (ho:∀b,H b=some (.own a)->H' b=some (.own a)) (ht:∀b xs,H b=some (.tup xs)->H' b=some (.tup xs)):J8 P w H' h' a o:=by
 induction o with
 | lst xs=>obtain ⟨z,its,n,r,e⟩:=x;exact ⟨z,its,n,r,k _ _ (.inl rfl) e⟩
 | tup xs=>obtain ⟨z,its,r,ob,e,c⟩:=x;exact ⟨z,its,r,ob,k _ _ (.inl rfl) e,c⟩
 | dK kvs=>obtain ⟨z,y,vs,r,ob,es,ep,e,c⟩:=x;exact ⟨z,y,vs,r,ob,es,ep,k _ _ (.inl rfl) e,c⟩
 | dT kvs =>
  obtain ⟨z,y,xs,r,ob,es,ep,e,c⟩:=x
  exact ⟨z,y,xs,Paired.mapP r fun p q z=>⟨z.1,ht _ _ z.2.1,z.2.2⟩,ob,es,ep,k _ _ (.inl rfl) e,c⟩
 | set S n=>obtain ⟨ob,es,ep,t,e,c⟩:=x;exact ⟨ob,es,ep,t,k _ _ (.inl rfl) e,c⟩
 | ins C dx fs =>
  obtain ⟨d,z,ne,e,mA,⟨od,es,ep,e2,c⟩,r⟩:=x
  exact ⟨ho _ d,z,ne,k _ _ (.inl rfl) e,mA,⟨od,es,ep,k _ _ (.inr d) e2,c⟩,r⟩
 | own y=>obtain ⟨ob,e⟩:=x;exact ⟨ob,k _ _ (.inl rfl) e⟩
 | xd fs=>obtain ⟨mA,⟨od,es,ep,e,c⟩,r⟩:=x;exact ⟨mA,⟨od,es,ep,k _ _ (.inl rfl) e,c⟩,r⟩
 | rng lo hi=>obtain ⟨t,u,v,e⟩:=x;exact ⟨t,u,v,k _ _ (.inl rfl) e⟩
 | frz ob u ih=>obtain ⟨e,q⟩:=x;exact ⟨k _ _ (.inl rfl) e,ih q⟩
 | tbl ps =>
  have e:h.get? a=some { cls:=.none,data:=.fields ps }:=x
  show h'.get? a=some { cls:=.none,data:=.fields ps }
  exact k a _ (.inl rfl) e
 | met f y =>
  have e:h.get? a=some (AA (.ref f) (.ref y)):=x
  show h'.get? a=some (AA (.ref f) (.ref y))
  exact k a _ (.inl rfl) e
 | ext φ=>obtain ⟨p,⟨o,e⟩,st⟩:=x;exact ⟨st _ _ p fun o q=>k _ _ (.inl rfl) q,⟨o,k _ _ (.inl rfl) e⟩,st⟩
theorem cW.lt (x:cW P w H h) (e:H a=some o):a<h.objs.size:=(x a o e).lt
theorem cW.fresh (x:cW P w H h) (e:h.objs.size<=a):H a=none:=by
 cases q:H a with
 | none=>rfl
 | some u=>exact absurd (w9 (x.lt q) e) (T3 _)
theorem cW.kept (x:cW P w H h) (k:∀b u,h.get? b=some u->h'.get? b=some u):cW P w H h':=fun a o e =>
 (x a o e).stay (fun b u _ q=>k b u q) (fun _ q=>q) fun _ _ q=>q
theorem cW.laid (x:cW P w H h) (k:∀b u,h.get? b=some u->h'.get? b=some u) (hp:h.objs.size<=a) (new:J8 P w (v8 H a o) h' a o):cW P w (v8 H a o) h':=fun b u e=>by
 have hn:=x.fresh hp
 by_cases hb:b=a
 ·subst hb;rw[i6] at e;cases e;exact new
 ·rw[A3 hb] at e
  exact (x b u e).stay (fun c v _ q=>k c v q) (fun c q=>by rw[A3 (u3 q hn)];exact q) fun c xs q=>by rw[A3 (u3 q hn)];exact q
end
noncomputable def Rd (H:Hp) (a:Addr) (u:HO):Prop:=H a=some u ∨ ∃o,H a=some (.frz o u)
variable {P:f6}{w:j6}{h:Heap}
theorem Rd.ok {u:HO} (r:Rd H a u) (x:cW P w H h):J8 P w H h a u:=by
 rcases r with r|⟨o,r⟩
 ·exact x a u r
 ·obtain ⟨_,q⟩:=x a _ r
  exact q
noncomputable def GO:Option HO->Prop
 | some (.lst _)=>True
 | some (.dK _)=>True
 | some (.dT _)=>True
 | some (.set _ _)=>True
 | some (.ins _ _ _)=>True
 | some (.ext _)=>True
 | _=>False
section
variable {P:f6}{w:j6}{H:Hp}{h h':Heap}{x e:Addr}{o':HO}
theorem cW.write (ok:cW P w H h) (mu:GO (H x)) (he:e=x ∨ H e=some (.own x)) (k:∀b u,b≠e->h.get? b=some u->h'.get? b=some u) (heo:∃u,h'.get? e=some u)
  (new:J8 P w (v8 H x o') h' x o'):cW P w (v8 H x o') h':=fun b u q=>by
 have nown:∀c y,H c=some (.own y)->c≠x:=fun c y r z=>by subst z;rw[r] at mu;exact mu
 have ntup:∀c xs,H c=some (.tup xs)->c≠x:=fun c xs r z=>by subst z;rw[r] at mu;exact mu
 by_cases hb:b=x
 ·subst hb;rw[i6] at q;cases q;exact new
 ·rw[A3 hb] at q
  by_cases hbe:b=e
  ·have q':H b=some (.own x):=by
    rcases he with z|z
    ·exact absurd (hbe.trans z) hb
    ·rw[hbe];exact z
   rw[q] at q';cases q'
   obtain ⟨v,hv⟩:=heo
   exact ⟨v,by rw[hbe];exact hv⟩
  ·refine (ok b u q).stay (fun c v hc r=>k c v ?_ r) (fun c r=>by rw[A3 (nown c b r)];exact r) fun c xs r=>by rw[A3 (ntup c xs r)];exact r
   rcases hc with rfl|hc
   ·exact hbe
   ·rintro rfl
    rcases he with z|z
    ·exact nown c b hc z
    ·rw[hc] at z;cases z;exact hb rfl
end
structure Un (fs ex:List Addr) (H H':Hp) (h h':Heap):Prop where
 keep:∀b o,h.get? b=some o->H b=none->b ∉ fs->b ∉ ex->h'.get? b=some o
 slot:∀b o,h.get? b=some o->H b=none->b∈fs->b ∉ ex->∃sl,h'.get? b=some { o with slots:=sl }
 free:∀b o,h.get? b=some o->H b=none->b ∉ ex->H' b=none
 there:∀b o,h.get? b=some o->b ∉ ex->∃o',h'.get? b=some o'
 tups:∀b xs,H b=some (.tup xs)->H' b=some (.tup xs)
 frzs:∀b o u,H b=some (.frz o u)->H' b=some (.frz o u)
 tbls:∀b ps,H b=some (.tbl ps)->∃more,H' b=some (.tbl (ps++more))
section
variable {fs fs' ex ex':List Addr}{H H1 H2:Hp}{h h1 h2 h':Heap}{a x e:Addr}{o:HO}
theorem Un.any (u:Un fs ex H H1 h h1) {b:Addr}{ob:Obj} (q:h.get? b=some ob) (n:H b=none) (hx:b ∉ ex):∃sl,h1.get? b=some { ob with slots:=sl }:=by
 by_cases hb:b∈fs
 ·exact u.slot b ob q n hb hx
 ·exact ⟨ob.slots,u.keep b ob q n hb hx⟩
theorem Un.kept (k:∀b u,h.get? b=some u->h'.get? b=some u):Un fs ex H H h h' :=
 ⟨fun b ob q _ _ _=>k b ob q,fun b ob q _ _ _=>⟨ob.slots,k b ob q⟩,fun _ _ _ n _=>n,fun b ob q _=>⟨ob,k b ob q⟩,fun _ _ q=>q,fun _ _ _ q=>q,fun _ ps q=>⟨#[],by rw[q];simp⟩⟩
theorem Un.refl:Un fs ex H H h h:=Un.kept fun _ _ q=>q
theorem Un.laid (k:∀b u,h.get? b=some u->h'.get? b=some u) (hp:h.objs.size<=a) (hn:H a=none):Un fs ex H (v8 H a o) h h' where
 keep:=fun b u q _ _ _=>k b u q
 slot:=fun b u q _ _ _=>⟨u.slots,k b u q⟩
 free:=fun b u q n _=>by rw[A3 (q9 (w9 (i4 q) hp))];exact n
 there:=fun b u q _=>⟨u,k b u q⟩
 tups:=fun b xs q=>by rw[A3 (u3 q hn)];exact q
 frzs:=fun b u xs q=>by rw[A3 (u3 q hn)];exact q
 tbls:=fun b ps q=>⟨#[],by rw[A3 (u3 q hn),q];simp⟩
theorem Un.write (mu:GO (H x)) (he:e=x ∨ H e=some (.own x)) (k:∀b u,b≠e->h.get? b=some u->h'.get? b=some u) (heo:∃u,h'.get? e=some u):Un fs ex H (v8 H x o) h h':=by
 have hx:∀b,H b=none->b≠x:=fun b n z=>by subst z;rw[n] at mu;exact mu
 have hb:∀b,H b=none->b≠e:=fun b n z=>by
  subst z
  rcases he with r|r
  ·exact hx b n r
  ·rw[n] at r;cases r
 have hm:∀b u,H b=some u->¬ GO (some u)->b≠x:=fun b u q nm z=>by subst z;rw[q] at mu;exact nm mu
 refine ⟨fun b u q n _ _=>k b u (hb b n) q,fun b u q n _ _=>⟨u.slots,k b u (hb b n) q⟩,fun b u q n _=>by rw[A3 (hx b n)];exact n,fun b u q _=>?_,
  fun b xs q=>by rw[A3 (hm b _ q fun z=>z)];exact q,fun b u xs q=>by rw[A3 (hm b _ q fun z=>z)];exact q,fun b ps q=>⟨#[],by rw[A3 (hm b _ q fun z=>z),q];simp⟩⟩
 by_cases hbe:b=e
 ·subst hbe;exact heo
 ·exact ⟨u,k b u hbe q⟩
end
noncomputable def HJ (h:Heap) (H:Hp):List Addr:=(G5 h.objs.size).filter fun a=>(H a).isSome
noncomputable def pV (h:Heap) (H:Hp):Heap:=W.hideAll h (HJ h H)
theorem xx (h:Heap) (H:Hp):(pV h H).objs.size=h.objs.size:=W.hideAll_size _ _
theorem zI {o:Obj} (e:h.get? b=some o) (n:H b=none):(pV h H).get? b=some o :=
 W.hideAll_get _ e fun hm=>by
  have q:(H b).isSome=true:=(List.mem_filter.mp hm).2
  rw[n] at q;simp at q
theorem Bw {o:Obj} (e:(pV h H).get? b=some o):h.get? b=some o/\H b=none:=by
 have e':h.get? b=some o:=W.of_hideAll (HJ h H) e
 refine ⟨e',?_⟩
 cases q:H b with
 | none=>rfl
 | some x =>
  have hm:b∈HJ h H:=List.mem_filter.mpr ⟨List.mem_range.mpr (i4 e'),by simp[q]⟩
  have z:(pV h H).get? b=none:=W.hideAll_none (HJ h H) hm
  rw[z] at e;cases e
noncomputable def BP (g h:Heap) (L:Addr):List (Addr × Obj):=(G5 h.objs.size).filterMap fun a=>if a=L ∨ (g.get? a).isSome=true then none else (h.get? a).map fun o=>(a,o)
noncomputable def cu (g h:Heap) (L d:Addr):List (Addr × Obj):=(BP g h L).filter fun p=>decide (p.1≠d)
structure Mod (K:m6) (mg:Str->Option b8) (base:Heap):Prop where
 kin:K.In base
 glob:base.Ns r9 mg
 blt:∃mb,base.Ns wI mb/\∀x:Str,x≠"__name__"->mb x=T7 x
 nolimit:base.NoLimit
structure Cx where
 prog:f6
 w:j6
 K:m6
 mg:Str->Option b8
 base:Heap
 A:r6
 N:List Str
 s₀:b9
 H₀:Hp
 env:Env
 outer:List Env
 stack:List Env
 ex:List Addr
 fn:Str->Bool
 calm:Bool
 pn:List (Addr × Obj)
 xe:b8->b9->Prop
noncomputable def pX (l:List Env):List Addr:=l.filterMap (·.frame)
noncomputable abbrev Cx.fs (X:Cx):List Addr:=pX X.outer
noncomputable def HL (sc:Q2) (x:Str):Prop:=sc.names.lookup x=some .local ∨ sc.names.lookup x=some .cell ∨ sc.names.lookup x=some .free
noncomputable def GP (sc:Q2) (x:Str):Prop:=sc.names.lookup x=some .local ∨ sc.names.lookup x=some .cell
noncomputable def Look (env:Env) (h:Heap) (m:Str->Option b8) (x:Str) (u:b8):Prop :=
 (env.kindOf x=some .local/\m x=some u) ∨ ((env.kindOf x=some .cell ∨ env.kindOf x=some .free)/\∃c,env.cells.lookup x=some c/\h.IsCell c (some u))
structure Cx.Ok (X:Cx):Prop where
 mod:Mod X.K X.mg X.base
 kind:X.env.scope.kind=.function
 glob:X.env.globals=r9
 blt:X.env.builtins=wI
 above:X.s₀.heap.objs.size<=X.env.locals
 inj:∀x y c,X.env.cells.lookup x=some c->X.env.cells.lookup y=some c->x=y
 has:∀x,(X.env.kindOf x=some .cell ∨ X.env.kindOf x=some .free)->∃c,X.env.cells.lookup x=some c
 cab:∀x c,X.fn x=true->X.env.cells.lookup x=some c->X.s₀.heap.objs.size<=c
 hd:X.calm=true->X.A.handled=none
 frames:X.A.frames=some X.stack
 stk:X.stack=X.outer ∨ (X.stack=X.env::X.outer/\X.env.frame=some X.env.locals)
 exf:∀b∈X.ex,b≠X.env.locals/\∀x c,X.env.cells.lookup x=some c->c≠b
 bs:∀b o,X.base.get? b=some o->X.s₀.heap.get? b=some o/\X.H₀ b=none
 bsz:X.base.objs.size<=X.s₀.heap.objs.size
 noex:∀b o,X.base.get? b=some o->b ∉ X.ex
 exfs:∀b∈X.ex,b ∉ X.fs
 funs:X.s₀.heap.FunFrames X.base X.outer
 frf:∀b∈X.fs,X.H₀ b=none
structure A9 (X:Cx) (pins:List (Addr × Obj)) (σ:List (Option V)) (H:Hp) (s:b9):Prop where
 ok:X.Ok
 os:s.os=X.s₀.os
 bare:fm s.gens
 base:Un X.fs X.ex X.H₀ H X.s₀.heap s.heap
 loc:∃m,s.heap.Ns X.env.locals m/\∀(i:Nat) (x:Str) (v:V),X.N[i]?=some x->σ[i]?=some (some v)->HL X.env.scope x->∃u,J3 v u/\Look X.env s.heap m x u
 cell:∀x c,X.env.cells.lookup x=some c->∃v,s.heap.IsCell c v
 free:H X.env.locals=none
 freeC:∀x c,X.env.cells.lookup x=some c->H c=none
 pin:∀p∈X.pn++pins,s.heap.get? p.1=some p.2/\H p.1=none/\p.1≠X.env.locals/\p.1 ∉ X.fs/\∀v,p.2.data≠.cell v
 hok:cW X.prog X.w H s.heap
 len:σ.length=X.N.length
section
variable {X:Cx}{pins:List (Addr × Obj)}{σ:List (Option V)}{H H':Hp}{s:b9}{h':Heap}
theorem Cx.Ok.nofr (ok:X.Ok) {b:Addr}{o:Obj} (e:X.base.get? b=some o):b ∉ X.fs:=fun hb=>by
 have:=(ok.funs.mem hb).1
 rw[e] at this;cases this
theorem A9.bs (I:A9 X pins σ H s):∀b o,X.base.get? b=some o->s.heap.get? b=some o/\H b=none:=fun b o e =>
 ⟨I.base.keep b o (I.ok.bs b o e).1 (I.ok.bs b o e).2 (I.ok.nofr e) (I.ok.noex b o e),I.base.free b o (I.ok.bs b o e).1 (I.ok.bs b o e).2 (I.ok.noex b o e)⟩
theorem A9.bk (I:A9 X pins σ H s):∀b o,X.base.get? b=some o->s.heap.get? b=some o:=fun b o e=>(I.bs b o e).1
theorem A9.mod (I:A9 X pins σ H s):Mod X.K X.mg X.base:=I.ok.mod
theorem A9.kIn (I:A9 X pins σ H s):X.K.In s.heap:=I.ok.mod.kin.keeps I.bk
theorem A9.lt (I:A9 X pins σ H s):X.env.locals<s.heap.objs.size:=let ⟨_,hn,_⟩:=I.loc;hn.lt
theorem A9.sz (I:A9 X pins σ H s):X.s₀.heap.objs.size<=s.heap.objs.size:=f9 I.ok.above (O3 I.lt)
theorem A9.nofs (I:A9 X pins σ H s) {a:Addr} (h:s.heap.objs.size<=a):a ∉ X.fs:=fun hb=>by
 obtain ⟨_,o,ho,_⟩:=I.ok.funs.mem hb
 exact absurd (w9 (i4 ho) (f9 I.sz h)) (T3 _)
theorem A9.cne (I:A9 X pins σ H s):∀x c,X.env.cells.lookup x=some c->c≠X.env.locals:=fun x c e z=>by
 obtain ⟨v,o,ho,hd⟩:=I.cell x c e
 obtain ⟨m,⟨o',es,ep,ho',hd',_⟩,_⟩:=I.loc
 rw[z,ho'] at ho;cases ho;rw[hd'] at hd;cases hd
theorem A9.funs (I:A9 X pins σ H s):s.heap.FunFrames X.base X.outer:=by
 have all:∀(l:List Env),(∀b∈pX l,b∈X.fs)->X.s₀.heap.FunFrames X.base l->s.heap.FunFrames X.base l:=by
  intro l
  induction l with
  | nil=>intro _ _;trivial
  | cons env r ih =>
   intro hs hl
   obtain ⟨hk,⟨L,o,hf,hn,ho,hd⟩,hr⟩:=hl
   have hL:L∈X.fs:=hs L (by unfold pX;rw[cG,hf];exact f7)
   obtain ⟨sl,e⟩:=I.base.slot L o ho (I.ok.frf L hL) hL fun z=>I.ok.exfs L z hL
   exact ⟨hk,⟨L,_,hf,hn,e,hd⟩,ih (fun b hb=>hs b (by unfold pX;rw[cG,hf];exact i3 _ hb)) hr⟩
 exact all X.outer (fun _ hb=>hb) I.ok.funs
theorem A9.stack (I:A9 X pins σ H s):s.heap.FunFrames X.base X.stack:=by
 rcases I.ok.stk with e|⟨e,hf⟩
 ·rw[e];exact I.funs
 ·rw[e]
  obtain ⟨m,hn,_⟩:=I.loc
  refine .cons (by rw[I.ok.kind];decide) hf hn ?_ I.funs
  exact xO (f9 I.ok.bsz I.ok.above)
theorem A9.stkSub (I:A9 X pins σ H s):∀b∈pX X.stack,b∈X.env.locals::X.fs:=fun b hb=>by
 rcases I.ok.stk with e|⟨e,hf⟩
 ·rw[e] at hb;exact i3 _ hb
 ·rw[e] at hb
  unfold pX at hb
  rw[cG,hf] at hb
  exact hb
theorem A9.stkFree (I:A9 X pins σ H s):∀b∈pX X.stack,H b=none:=fun b hb=>by
 rcases List.mem_cons.mp (I.stkSub b hb) with e|hb
 ·rw[e];exact I.free
 ·obtain ⟨_,o,ho,_⟩:=I.ok.funs.mem hb
  exact I.base.free b o ho (I.ok.frf b hb) fun z=>I.ok.exfs b z hb
variable {t':Nat}{ch:List Addr}
theorem A9.step {g':Array CK}{d':Drawn}(I:A9 X pins σ H s)
  (hch:∀b∈ch,(b∈X.ex ∨ X.s₀.heap.objs.size<=b)/\b≠X.env.locals/\(∀x c,X.env.cells.lookup x=some c->c≠b)/\∀p∈X.pn++pins,p.1≠b)
  (keep:∀b o,b≠X.env.locals->b ∉ X.fs->b ∉ ch->s.heap.get? b=some o->H b=none->h'.get? b=some o)
  (slot:∀b o,b≠X.env.locals->b∈X.fs->b ∉ ch->s.heap.get? b=some o->H b=none->∃sl,h'.get? b=some { o with slots:=sl }) (free:∀b o,b ∉ ch->s.heap.get? b=some o->H b=none->H' b=none)
  (there:∀b o,b ∉ ch->s.heap.get? b=some o->∃o',h'.get? b=some o')
  (tups:∀b xs,H b=some (.tup xs)->H' b=some (.tup xs)) (frzs:∀b o u,H b=some (.frz o u)->H' b=some (.frz o u)) (tbls:∀b ps,H b=some (.tbl ps)->∃more,H' b=some (.tbl (ps++more)))
  (ns:∀m,s.heap.Ns X.env.locals m->h'.Ns X.env.locals m) (hok:cW X.prog X.w H' h') (hg:fm g'):
  A9 X pins σ H' { s with heap:=h',gens:=g',drawn:=d',toks:=t' }:=by
 have neL:∀b o,X.s₀.heap.get? b=some o->b≠X.env.locals:=fun b o e=>q9 (w9 (i4 e) I.ok.above)
 have neC:∀b o,X.s₀.heap.get? b=some o->b ∉ X.ex->b ∉ ch:=fun b o e hx hb=>by
  rcases (hch b hb).1 with z|z
  ·exact hx z
  ·exact absurd (w9 (i4 e) z) (T3 _)
 have cellK:∀x c,X.env.cells.lookup x=some c->∀v,s.heap.IsCell c v->h'.IsCell c v:=fun x c e v ⟨o,ho,hd⟩=>by
  have nch:c ∉ ch:=fun z=>(hch c z).2.2.1 x c e rfl
  by_cases hc:c∈X.fs
  ·obtain ⟨sl,q⟩:=slot c o (I.cne x c e) hc nch ho (I.freeC x c e)
   exact ⟨_,q,hd⟩
  ·exact ⟨o,keep c o (I.cne x c e) hc nch ho (I.freeC x c e),hd⟩
 refine ⟨I.ok,I.os,hg,⟨fun b o e n hb hx=>?_,fun b o e n hb hx=>?_,fun b o e n hx=>?_,fun b o e hx=>?_,fun b xs e=>tups b xs (I.base.tups b xs e),fun b o xs e=>frzs b o xs (I.base.frzs b o xs e),fun b ps e=>?_⟩,?_,fun x c e=>?_,?_,fun x c e=>?_,fun p hp=>?_,hok,I.len⟩
 ·exact keep b o (neL b o e) hb (neC b o e hx) (I.base.keep b o e n hb hx) (I.base.free b o e n hx)
 ·obtain ⟨sl,e1⟩:=I.base.slot b o e n hb hx
  obtain ⟨sl',e2⟩:=slot b _ (neL b o e) hb (neC b o e hx) e1 (I.base.free b o e n hx)
  exact ⟨sl',e2⟩
 ·obtain ⟨o',e1⟩:=I.base.there b o e hx
  exact free b o' (neC b o e hx) e1 (I.base.free b o e n hx)
 ·obtain ⟨o',e1⟩:=I.base.there b o e hx
  exact there b o' (neC b o e hx) e1
 ·obtain ⟨m1,e1⟩:=I.base.tbls b ps e
  obtain ⟨m2,e2⟩:=tbls b _ e1
  exact ⟨m1++m2,by rw[e2,Array.append_assoc]⟩
 ·obtain ⟨m,hn,hl⟩:=I.loc
  refine ⟨m,ns m hn,fun i x v e1 e2 e3=>?_⟩
  obtain ⟨u,r,l⟩:=hl i x v e1 e2 e3
  refine ⟨u,r,?_⟩
  rcases l with l|⟨k,c,e,z⟩
  ·exact .inl l
  ·exact .inr ⟨k,c,e,cellK x c e _ z⟩
 ·obtain ⟨v,z⟩:=I.cell x c e
  exact ⟨v,cellK x c e v z⟩
 ·obtain ⟨m,⟨o,_,_,ho,_⟩,_⟩:=I.loc
  exact free _ o (fun z=>(hch _ z).2.1 rfl) ho I.free
 ·obtain ⟨v,o,ho,hd⟩:=I.cell x c e
  exact free c o (fun z=>(hch c z).2.2.1 x c e rfl) ho (I.freeC x c e)
 ·obtain ⟨e,n,ne,nf,d⟩:=I.pin p hp
  have nch:p.1 ∉ ch:=fun z=>(hch p.1 z).2.2.2 p hp rfl
  exact ⟨keep p.1 p.2 ne nf nch e n,free p.1 p.2 nch e n,ne,nf,d⟩
theorem A9.un (I:A9 X pins σ H s) (u:Un X.fs [] H H' s.heap h') (hok:cW X.prog X.w H' h'):A9 X pins σ H' { s with heap:=h',toks:=t' }:=by
 obtain ⟨m,⟨o,es,ep,ho,r⟩,_⟩:=id I.loc
 obtain ⟨sl,hL⟩:=u.any ho I.free (by simp)
 exact I.step (g':=s.gens) (d':=s.drawn) (ch:=[]) (fun _ z=>nomatch z) (fun b o _ hb _ e n=>u.keep b o e n hb (by simp)) (fun b o _ hb _ e n=>u.slot b o e n hb (by simp)) (fun b o _ e n=>u.free b o e n (by simp)) (fun b o _ e=>u.there b o e (by simp)) u.tups u.frzs u.tbls (fun m' hm=>by
  obtain ⟨o',es',ep',ho',r'⟩:=hm
  rw[ho] at ho';cases ho'
  exact ⟨_,es',ep',hL,r'⟩) hok I.bare
theorem A9.call {g':Array CK}{d':Drawn}(I:A9 X pins σ H s) (u:Un (pX X.stack) ch H H' s.heap h') (hok:cW X.prog X.w H' h') (hg:fm g')
  (hch:∀b∈ch,(b∈X.ex ∨ X.s₀.heap.objs.size<=b)/\b≠X.env.locals/\(∀x c,X.env.cells.lookup x=some c->c≠b)/\∀p∈X.pn++pins,p.1≠b):
  A9 X pins σ H' { s with heap:=h',gens:=g',drawn:=d',toks:=t' }:=by
 obtain ⟨m,⟨o,es,ep,ho,r⟩,_⟩:=id I.loc
 obtain ⟨sl,hL⟩:=u.any ho I.free fun z=>(hch _ z).2.1 rfl
 exact I.step (ch:=ch) hch (fun b o hL hb hc e n=>u.keep b o e n (fun z=>(List.mem_cons.mp (I.stkSub b z)).elim hL hb) hc) (fun b o _ _ hc e n=>u.any e n hc) (fun b o hc e n=>u.free b o e n hc) (fun b o hc e=>u.there b o e hc) u.tups u.frzs u.tbls (fun m' hm=>by
  obtain ⟨o',es',ep',ho',r'⟩:=hm
  rw[ho] at ho';cases ho'
  exact ⟨_,es',ep',hL,r'⟩) hok hg
theorem A9.turned {it:Addr} (I:A9 X pins σ H s) (k:∀b o,b≠it->s.heap.get? b=some o->h'.get? b=some o) (hn:H it=none) (hL:it≠X.env.locals)
  (h1:it∈X.ex ∨ X.s₀.heap.objs.size<=it) (h2:∀x c,X.env.cells.lookup x=some c->c≠it) (h3:∀p∈X.pn++pins,p.1≠it):A9 X pins σ H { s with heap:=h',toks:=t' }:=by
 have nit:∀b u,H b=some u->b≠it:=fun b u e z=>by rw[z,hn] at e;cases e
 refine I.step (g':=s.gens) (d':=s.drawn) (ch:=[it]) (fun b hb=>?_) (fun b o _ _ hc e _=>k b o (fun z=>hc (by simp[z])) e) (fun b o _ _ hc e _=>⟨o.slots,k b o (fun z=>hc (by simp[z])) e⟩) (fun _ _ _ _ n=>n)
  (fun b o hc e=>⟨o,k b o (fun z=>hc (by simp[z])) e⟩) (fun _ _ e=>e) (fun _ _ _ e=>e) (fun b ps e=>⟨#[],by rw[e];simp⟩) (fun m hm=>?_) (fun b u e=>?_) I.bare
 ·have e:b=it:=by simpa using hb
  subst e
  exact ⟨h1,hL,h2,h3⟩
 ·obtain ⟨o,es,ep,ho,r⟩:=hm
  exact ⟨o,es,ep,k _ o (G8 hL) ho,r⟩
 ·refine (I.hok b u e).stay (fun c v hc q=>k c v ?_ q) (fun _ q=>q) fun _ _ q=>q
  rcases hc with z|z
  ·rw[z];exact nit b u e
  ·exact nit c _ z
theorem A9.tok (I:A9 X pins σ H s) (t:Nat):A9 X pins σ H { s with toks:=t }:=I.un (h':=s.heap) (t':=t) Un.refl I.hok
theorem A9.kept {t':Nat} (I:A9 X pins σ H s) (k:∀b u,s.heap.get? b=some u->h'.get? b=some u):A9 X pins σ H { s with heap:=h',toks:=t' }:=I.un (Un.kept k) (I.hok.kept k)
theorem A9.laid {a:Addr}{o:HO}{t':Nat} (I:A9 X pins σ H s) (k:∀b u,s.heap.get? b=some u->h'.get? b=some u) (hp:s.heap.objs.size<=a) (new:J8 X.prog X.w (v8 H a o) h' a o):
  A9 X pins σ (v8 H a o) { s with heap:=h',toks:=t' }:=I.un (Un.laid k hp (I.hok.fresh hp)) (I.hok.laid k hp new)
theorem A9.write {x e:Addr}{o:HO}{t':Nat} (I:A9 X pins σ H s) (mu:GO (H x)) (he:e=x ∨ H e=some (.own x)) (k:∀b u,b≠e->s.heap.get? b=some u->h'.get? b=some u) (heo:∃u,h'.get? e=some u)
  (new:J8 X.prog X.w (v8 H x o) h' x o):A9 X pins σ (v8 H x o) { s with heap:=h',toks:=t' }:=I.un (Un.write mu he k heo) (I.hok.write mu he k heo new)
theorem A9.weak {σ':List (Option V)} (I:A9 X pins σ H s) (hl:σ'.length=σ.length) (w:∀(i:Nat) v,σ'[i]?=some (some v)->σ[i]?=some (some v)):A9 X pins σ' H s :=
 ⟨I.ok,I.os,I.bare,I.base,let ⟨m,hn,hl'⟩:=I.loc;⟨m,hn,fun i x v e1 e2 e3=>hl' i x v e1 (w i v e2) e3⟩,I.cell,I.free,I.freeC,I.pin,I.hok,hl.trans I.len⟩
theorem A9.pins_of {pins':List (Addr × Obj)} (I:A9 X pins σ H s) (h:∀p∈pins',s.heap.get? p.1=some p.2/\H p.1=none/\p.1≠X.env.locals/\p.1 ∉ X.fs/\∀v,p.2.data≠.cell v):A9 X pins' σ H s :=
 ⟨I.ok,I.os,I.bare,I.base,I.loc,I.cell,I.free,I.freeC,fun p hp=>(List.mem_append.mp hp).elim (fun z=>I.pin p (E9 _ z)) (h p),I.hok,I.len⟩
variable {i:Nat}{x:Str}
theorem rO {N:List Str} (hN:N.Nodup) {j:Nat}(a:N[i]?=some x) (b:N[j]?=some x):i=j:=by
 obtain ⟨h1,e1⟩:=List.getElem?_eq_some_iff.mp a
 obtain ⟨h2,e2⟩:=List.getElem?_eq_some_iff.mp b
 exact (Cd hN).mp (e1.trans e2.symm)
theorem mO {M:lW}{A:r6}{E:b8->b9->Prop}{v:V}{u:b8}{Q:Unit->b9->Prop} (I:A9 X pins σ H s) (hN:X.N.Nodup) (hi:X.N[i]?=some x) (hx:GP X.env.scope x) (r:J3 v u)
  (h:∀s',A9 X pins (σ.set i (some v)) H s'->(∃a,D0 a s.heap s'.heap/\(a=X.env.locals ∨ X.env.cells.lookup x=some a))->Q () s') (hf:X.fn x=true ∨ X.env.scope.names.lookup x=some .local:=by first|exact .inl rfl|exact .inr rfl|assumption):i5 M A (storeName X.env x u) Q E s:=by
 obtain ⟨m,hn,hl⟩:=id I.loc
 have hcls:(X.env.scope.kind == .class || (X.env.scope.kind == .module&&X.env.locals != X.env.globals))=false:=by rw[I.ok.kind];rfl
 have hiσ:i<σ.length:=by rw[I.len];exact (List.getElem?_eq_some_iff.mp hi).1
 have cne:=I.cne
 have tracked:∀{a:Addr}{h':Heap},(∃o,s.heap.get? a=some o/\H a=none)->D0 a s.heap h'->cW X.prog X.w H h':=fun {a h'} ha hs b ob e=>by
  obtain ⟨_,_,hfree⟩:=ha
  refine (I.hok b ob e).stay (fun c w' hc q=>(hs.2 c ?_).trans q) (fun _ q=>q) fun _ _ q=>q
  rintro rfl
  rcases hc with rfl|hc
  ·rw[hfree] at e;cases e
  ·rw[hfree] at hc;cases hc
 rcases hx with hk|hk
 ·refine wpAny_storeName_local hk hn (fun h' hn' hs=>?_) hcls
  obtain ⟨oL,_,_,hoL,_⟩:=id hn
  refine h _ ⟨I.ok,I.os,I.bare,⟨fun b o e n hb hx=>?_,fun b o e n hb hx=>?_,I.base.free,fun b o e hx=>?_,I.base.tups,I.base.frzs,I.base.tbls⟩,⟨_,hn',fun j y v' e1 e2 e3=>?_⟩,fun y c e=>?_,I.free,I.freeC,fun p hp=>?_,tracked ⟨oL,hoL,I.free⟩ hs,by simpa using I.len⟩ ⟨_,hs,.inl rfl⟩
  ·exact (hs.2 b (q9 (w9 (i4 e) I.ok.above))).trans (I.base.keep b o e n hb hx)
  ·obtain ⟨sl,e1⟩:=I.base.slot b o e n hb hx
   exact ⟨sl,(hs.2 b (q9 (w9 (i4 e) I.ok.above))).trans e1⟩
  ·obtain ⟨o',e1⟩:=I.base.there b o e hx
   exact ⟨o',(hs.2 b (q9 (w9 (i4 e) I.ok.above))).trans e1⟩
  ·by_cases hj:j=i
   ·subst hj
    rw[hi] at e1;cases e1
    rw[vh hiσ] at e2
    cases e2
    exact ⟨u,r,.inl ⟨hk,by simp⟩⟩
   ·rw[F0 (G8 hj)] at e2
    obtain ⟨u',r',q⟩:=hl j y v' e1 e2 e3
    refine ⟨u',r',?_⟩
    rcases q with ⟨k,e⟩|⟨k,c,e,z⟩
    ·refine .inl ⟨k,?_⟩
     have:y≠x:=fun e=>hj (rO hN e1 (e ▸ hi))
     simp[this,e]
    ·exact .inr ⟨k,c,e,z.sameBut hs (cne y c e)⟩
  ·obtain ⟨w',z⟩:=I.cell y c e
   exact ⟨w',z.sameBut hs (cne y c e)⟩
  ·obtain ⟨e,n,ne,nf,d⟩:=I.pin p hp
   exact ⟨(hs.2 p.1 ne).trans e,n,ne,nf,d⟩
 ·have hfn:X.fn x=true:=by
   rcases hf with z|z
   ·exact z
   ·rw[z] at hk;cases hk
  obtain ⟨c,hc⟩:=I.ok.has x (.inl hk)
  obtain ⟨w',z⟩:=I.cell x c hc
  refine wpAny_storeName_cell I.ok.kind hk hc z (fun h' hc' hs=>?_)
  obtain ⟨oc,hoc,hocd⟩:=id z
  refine h { s with heap:=h' } ⟨I.ok,I.os,I.bare,⟨fun b o e n hb hx=>?_,fun b o e n hb hx=>?_,I.base.free,fun b o e hx=>?_,I.base.tups,I.base.frzs,I.base.tbls⟩,⟨m,hn.sameBut hs (G8 (cne x c hc)),fun j y v' e1 e2 e3=>?_⟩,fun y c' e=>?_,I.free,I.freeC,fun p hp=>?_,tracked ⟨oc,hoc,I.freeC x c hc⟩ hs,by simpa using I.len⟩ ⟨c,hs,.inr hc⟩
  ·exact (hs.2 b (q9 (w9 (i4 e) (I.ok.cab x c hfn hc)))).trans (I.base.keep b o e n hb hx)
  ·obtain ⟨sl,e1⟩:=I.base.slot b o e n hb hx
   exact ⟨sl,(hs.2 b (q9 (w9 (i4 e) (I.ok.cab x c hfn hc)))).trans e1⟩
  ·obtain ⟨o',e1⟩:=I.base.there b o e hx
   exact ⟨o',(hs.2 b (q9 (w9 (i4 e) (I.ok.cab x c hfn hc)))).trans e1⟩
  ·by_cases hj:j=i
   ·subst hj
    rw[hi] at e1;cases e1
    rw[vh hiσ] at e2
    cases e2
    exact ⟨u,r,.inr ⟨.inl hk,c,hc,hc'⟩⟩
   ·rw[F0 (G8 hj)] at e2
    obtain ⟨u',r',q⟩:=hl j y v' e1 e2 e3
    refine ⟨u',r',?_⟩
    rcases q with q|⟨k,c',e,z'⟩
    ·exact .inl q
    ·refine .inr ⟨k,c',e,z'.sameBut hs ?_⟩
     rintro rfl
     exact hj (rO hN e1 (I.ok.inj _ _ _ e hc ▸ hi))
  ·by_cases hcc:c'=c
   ·subst hcc;exact ⟨_,hc'⟩
   ·obtain ⟨w2,z2⟩:=I.cell y c' e
    exact ⟨w2,z2.sameBut hs hcc⟩
  ·obtain ⟨e,n,ne,nf,d⟩:=I.pin p hp
   refine ⟨(hs.2 p.1 ?_).trans e,n,ne,nf,d⟩
   intro q
   rw[q,hoc] at e
   have q':oc=p.2:=E2 e
   exact d w' (by rw[<- q'];exact hocd)
theorem gU {M:lW}{A:r6}{E:b8->b9->Prop}{v:V}{u:b8}{Q:Unit->b9->Prop} (I:A9 X pins σ H s) (hN:X.N.Nodup) (hi:X.N[i]?=some x) (hx:GP X.env.scope x) (r:J3 v u)
  (h:∀s',A9 X pins (σ.set i (some v)) H s'->Q () s') (hf:X.fn x=true ∨ X.env.scope.names.lookup x=some .local:=by first|exact .inl rfl|exact .inr rfl|assumption):i5 M A (storeName X.env x u) Q E s :=
 mO I hN hi hx r (fun s' I' _=>h s' I') hf
theorem A9.call' {s':b9}(I:A9 X pins σ H s) (ho:s'.os=s.os) (u:Un (pX X.stack) ch H H' s.heap s'.heap) (hok:cW X.prog X.w H' s'.heap) (hg:fm s'.gens)
  (hch:∀b∈ch,(b∈X.ex ∨ X.s₀.heap.objs.size<=b)/\b≠X.env.locals/\(∀x c,X.env.cells.lookup x=some c->c≠b)/\∀p∈X.pn++pins,p.1≠b):A9 X pins σ H' s':=by
 obtain ⟨h',g',d',t',o'⟩:=s'
 have e:o'=s.os:=ho
 subst e
 exact I.call (g':=g') (t':=t') (d':=d') u hok hg hch
end
noncomputable abbrev XK:=b8->Option Addr->Hp->Prop
noncomputable abbrev St:=List (Option V)
noncomputable abbrev VK:=V->Hp->Prop
noncomputable abbrev TE:=St->Hp->VK->Prop
noncomputable abbrev TT:=St->Hp->(Bool->Hp->Prop)->Prop
noncomputable abbrev TA:=St->Hp->(List V->Hp->Prop)->Prop
structure mG where
 nx:St->Hp->Prop
 rt:VK
 bk:St->Hp->Prop:=fun _ _=>False
 ct:St->Hp->Prop:=fun _ _=>False
noncomputable abbrev TS:=mG->St->Hp->Prop
noncomputable def EP (X:Cx) (pins:List (Addr × Obj)) (σ:St) (Q:VK) (u:b8) (s':b9):Prop:=∃v H',A9 X pins σ H' s'/\J3 v u/\Q v H'
noncomputable def TP (X:Cx) (pins:List (Addr × Obj)) (σ:St) (Q:Bool->Hp->Prop) (b:Bool) (s':b9):Prop:=∃H',A9 X pins σ H' s'/\Q b H'
noncomputable def AP (X:Cx) (pins:List (Addr × Obj)) (σ:St) (Q:List V->Hp->Prop) (us:List b8) (s':b9):Prop:=∃vs H',A9 X pins σ H' s'/\J2 vs us/\Q vs H'
noncomputable def SP (X:Cx) (pins:List (Addr × Obj)) (D:mG) (f:Flow) (s':b9):Prop :=
 match f with
 | .next=>∃σ' H',A9 X pins σ' H' s'/\D.nx σ' H'
 | .brk=>∃σ' H',A9 X pins σ' H' s'/\D.bk σ' H'
 | .cont=>∃σ' H',A9 X pins σ' H' s'/\D.ct σ' H'
 | .ret u=>∃v σ' H',A9 X pins σ' H' s'/\J3 v u/\D.rt v H'
noncomputable def PE (X:Cx) (e:Expr) (t:TE):Prop :=
 ∀(pins:List (Addr × Obj)) (s:b9) (σ:St) (H:Hp) (Q:VK),A9 X pins σ H s->t σ H Q->i5 (n0 X.prog X.w) X.A (eval e X.env) (EP X pins σ Q) X.xe s
noncomputable def PT (X:Cx) (e:Expr) (t:TT):Prop :=
 ∀(pins:List (Addr × Obj)) (s:b9) (σ:St) (H:Hp) (Q:Bool->Hp->Prop),A9 X pins σ H s->t σ H Q->i5 (n0 X.prog X.w) X.A (EW e X.env (eval e X.env)) (TP X pins σ Q) X.xe s
noncomputable def PW (X:Cx) (e:Expr) (t:TT):Prop :=
 ∀(whole:Sem b8) (pins:List (Addr × Obj)) (s:b9) (σ:St) (H:Hp) (Q:Bool->Hp->Prop),A9 X pins σ H s->t σ H Q->i5 (n0 X.prog X.w) X.A (EW e X.env whole) (TP X pins σ Q) X.xe s
variable {X:Cx}
theorem PW.pt {e:Expr}{t:TT} (h:PW X e t):PT X e t:=h _
noncomputable def PA (X:Cx) (es:List Expr) (t:TA):Prop :=
 ∀(pos:Pos) (pins:List (Addr × Obj)) (s:b9) (σ:St) (H:Hp) (Q:List V->Hp->Prop),A9 X pins σ H s->t σ H Q->i5 (n0 X.prog X.w) X.A (spliced (bN pos (B5 es X.env))) (AP X pins σ Q) X.xe s
noncomputable def PS (X:Cx) (st:Stmt) (t:TS):Prop :=
 ∀(pins:List (Addr × Obj)) (s:b9) (σ:St) (H:Hp) (D:mG),A9 X pins σ H s->t D σ H->i5 (n0 X.prog X.w) X.A (exec st X.env) (SP X pins D) X.xe s
noncomputable def qv (X:Cx) (st:List Stmt) (t:TS):Prop :=
 ∀(pins:List (Addr × Obj)) (s:b9) (σ:St) (H:Hp) (D:mG),A9 X pins σ H s->t D σ H->i5 (n0 X.prog X.w) X.A (execs st X.env) (SP X pins D) X.xe s
variable {A:r6}{E:b8->b9->Prop}{s:b9}
theorem R4 {α:Type}{t:Sem α}{Q Q':α->b9->Prop}{M:lW}(h:i5 M A t Q E s) (hQ:∀a s,Q a s->Q' a s):i5 M A t Q' E s:=F9 h hQ fun _ _ x=>x
section
variable {X:Cx}
noncomputable def yq (i:Nat):TE:=fun σ H Q=>∃v,σ[i]?=some (some v)/\Q v H
noncomputable def tC (v:V):TE:=fun _ H Q=>Q v H
variable {x:Str}
theorem DA {i:Nat}{pos:Pos} (hN:X.N[i]?=some x) (hv:HL X.env.scope x) (hd:(x == ("__debug__":Str))=false:=by decide) (hcd:(x == ("__classdict__":Str))=false:=by decide):PE X (.Name x pos) (yq i):=by
 intro pins s σ H Q I h
 obtain ⟨v,e,h⟩:=h
 obtain ⟨m,hn,hl⟩:=I.loc
 obtain ⟨u,r,l⟩:=hl i x v hN e hv
 have fin:EP X pins σ Q u s:=⟨v,H,I,r,h⟩
 rcases l with ⟨hk,hm⟩|⟨hk,c,hc,hcell⟩
 ·exact ET (wpAny_loadName_local I.ok.kind hk hn hm fin) hd
 ·rcases hk with hk|hk
  ·exact ET (wpAny_loadName_cell I.ok.kind hk hc hcell fin) hd
  ·exact ET (wpAny_loadName_free I.ok.kind hk hc hcell fin hcd) hd
theorem j9 {i j pos}:PE X (.Constant (.int i) j pos) (tC (.int i)):=fun _ _ _ H _ I h=>wpAny_Constant_int ⟨.int i,H,I.tok _,⟨_,rfl⟩,h⟩
theorem eS {b j pos}:PE X (.Constant (.bool b) j pos) (tC (.bl b)):=fun _ _ _ H _ I h=>Constant_bool ⟨.bl b,H,I,rfl,h⟩
theorem DD {j pos}:PE X (.Constant .none j pos) (tC .non):=fun _ _ _ H _ I h=>Constant_none ⟨.non,H,I,rfl,h⟩
theorem uq {x j pos}:PE X (.Constant (.str x) j pos) (tC (.str x)):=fun _ _ _ H _ I h=>yi ⟨.str x,H,I.tok _,⟨_,rfl⟩,h⟩
noncomputable def Gl (X:Cx) (x:Str):Prop:=X.env.kindOf x=some .globalImplicit
variable {u:b8}
theorem pR {E:b8->b9->Prop}{pins:List (Addr × Obj)}{s:b9}{σ:St}{H:Hp}{pos:Pos}{Q:b8->b9->Prop} (I:A9 X pins σ H s) (hg:Gl X x) (hm:X.mg x=some u) (h:Q u s)
  (hd:(x == ("__debug__":Str))=false:=by decide):i5 (n0 X.prog X.w) X.A (eval (.Name x pos) X.env) Q E s :=
 nZ I.ok.kind hg (Calls.loadGlobal_global (by rw[I.ok.glob];exact I.mod.glob.keeps I.bk) hm h) hd
theorem jo {E:b8->b9->Prop}{pins:List (Addr × Obj)}{s:b9}{σ:St}{H:Hp}{pos:Pos}{Q:b8->b9->Prop} (I:A9 X pins σ H s) (hg:Gl X x) (hm:X.mg x=none) (hv:T7 x=some u) (h:Q u s)
  (hn:x≠"__name__":=by decide) (hd:(x == ("__debug__":Str))=false:=by decide):i5 (n0 X.prog X.w) X.A (eval (.Name x pos) X.env) Q E s:=by
 obtain ⟨mb,h1,h2⟩:=I.mod.blt
 exact nZ I.ok.kind hg (Calls.loadGlobal_builtin (by rw[I.ok.glob];exact I.mod.glob.keeps I.bk) hm (by rw[I.ok.blt];exact h1.keeps I.bk) ((h2 x hn).trans hv) h) hd
theorem hZ {v:V}{pos:Pos} (hg:Gl X x) (hm:X.mg x=some u) (r:J3 v u) (hd:(x == ("__debug__":Str))=false:=by decide):PE X (.Name x pos) (tC v):=
 fun _ _ _ H _ I h=>pR I hg hm ⟨v,H,I,r,h⟩ hd
theorem Bi {v:V}{pos:Pos} (hg:Gl X x) (hm:X.mg x=none) (hv:T7 x=some u) (r:J3 v u) (hn:x≠"__name__":=by decide) (hd:(x == ("__debug__":Str))=false:=by decide):PE X (.Name x pos) (tC v):=
 fun _ _ _ H _ I h=>jo I hg hm hv ⟨v,H,I,r,h⟩ hn hd
variable {a b:Expr}{ta tb:TE}{pos:Pos}
noncomputable def PC (X:Cx) (op:CM) (a b:Expr) (t:TE):Prop :=
 ∀(pins:List (Addr × Obj)) (s:b9) (σ:St) (H:Hp) (Q:VK),A9 X pins σ H s->t σ H Q ->
  i5 (n0 X.prog X.w) X.A (eval a X.env) (fun v s₁=>i5 (n0 X.prog X.w) X.A (eval b X.env) (fun u s₂=>i5 (n0 X.prog X.w) X.A (P5 op v u) (EP X pins σ Q) X.xe s₂) X.xe s₁) X.xe s
theorem zo (b:Expr) {op:CM} (h:op≠.In) (h2:op≠.NotIn):aN op b=false:=by
 have e1:(op == CmpOp.In)=false:=by cases op <;> first|rfl|exact absurd rfl h
 have e2:(op == HI)=false:=by cases op <;> first|rfl|exact absurd rfl h2
 cases b <;> simp[aN,e1,e2]
noncomputable def FC (ta:TE):TE:=fun σ H Q=>ta σ H fun x H1=>Q (.bl (!decide (x=.non))) H1
theorem J3.none_iff {x:V}{v:b8} (r:J3 x v):(v == A5)=decide (x=.non):=by
 cases x with
 | non=>cases r;rfl
 | bl _=>cases r;rfl
 | int _=>obtain ⟨t,rfl⟩:=r;rfl
 | str _=>obtain ⟨t,rfl⟩:=r;rfl
 | byt _=>obtain ⟨t,rfl⟩:=r;rfl
 | flt _=>obtain ⟨t,rfl⟩:=r;rfl
 | ref _=>cases r;rfl
 | ty _=>cases r;rfl
theorem Bj {j pos'} (ha:PE X a ta):PC X .IsNot a (.Constant .none j pos') (FC ta):=by
 intro pins s σ H Q I h
 refine R4 (ha pins s σ H _ I h) fun v s1 ⟨x,H1,I1,r1,q1⟩=>?_
 exact Constant_none (isnot_none_gen ⟨.bl _,H1,I1,by rw[r1.none_iff];rfl,q1⟩)
noncomputable def tB (t:TE):TT:=fun σ H Q=>t σ H fun x H1=>∃c,x=.bl c/\Q c H1
theorem Dz {op:CM}{t:TE} (h:PC X op a b t) (h1:aN op b=false:=by first|exact zo _ (by decide) (by decide)|rfl):PT X (.Compare a [op] [b] pos) (tB t):=by
 intro pins s σ H Q I hw
 refine BX (R4 (h pins s σ H _ I hw) fun v s1 h1=>R4 h1 fun u s2 h2=>R4 h2 fun c s3 ⟨x,H1,I1,r1,q1⟩=>?_) h1
 obtain ⟨d,rfl,q⟩:=q1
 cases r1
 exact P4 ⟨H1,I1,q⟩
theorem bG {e:Expr}{t:TE} (h:PE X e t) (he:∀whole,EW e X.env whole=(do let v <- whole;standAt e.pos;Hu [v] (truthy v)):=by intro _;rfl):PT X e (tB t):=by
 intro pins s σ H Q I hw
 refine isTrue_plain (R4 (h pins s σ H _ I hw) fun v s1 ⟨x,H1,I1,r1,q1⟩=>?_) (he _)
 obtain ⟨d,rfl,q⟩:=q1
 cases r1
 exact P4 ⟨H1,I1,q⟩
variable {tA tB':TT}{cu:List Expr}
noncomputable def tOr (t u:TT):TT:=fun σ H Q=>t σ H fun c H1=>if c=true then Q true H1 else u σ H1 Q
noncomputable def tNot (t:TT):TT:=fun σ H Q=>t σ H fun c H1=>Q (!c) H1
theorem yL (ha:PT X a tA):PW X (.BoolOp .Or [a] pos) tA:=by
 intro wh pins s σ H Q I h
 refine isTrue_or (R4 (ha pins s σ H Q I h) fun c s1 e=>?_)
 cases c with
 | false=>exact isTrue_or_nil e
 | true=>exact e
theorem Cp (ha:PT X a tA) (hb:PW X (.BoolOp .Or (b::cu) pos) tB'):PW X (.BoolOp .Or (a::b::cu) pos) (tOr tA tB'):=by
 intro wh pins s σ H Q I h
 refine isTrue_or (R4 (ha pins s σ H _ I h) fun c s1 ⟨H1,I1,q1⟩=>?_)
 cases c with
 | true=>exact ⟨H1,I1,q1⟩
 | false=>exact hb wh pins s1 σ H1 Q I1 q1
theorem cQ (ha:PT X a tA):PT X (.UnaryOp .Not a pos) (tNot tA):=by
 intro pins s σ H Q I h
 exact isTrue_not (ha pins s σ H (fun c H1=>Q (!c) H1) I h)
noncomputable def FI (ta tb:TE):TE:=fun σ H Q=>ta σ H fun x H1=>∃c,x=.bl c/\if c=true then tb σ H1 Q else Q (.bl false) H1
noncomputable def FA (ta:TE):TE:=fun σ H Q=>ta σ H fun x H1=>∃c,x=.bl c/\Q (.bl (!c)) H1
theorem jf {op}{t:TE} (h:PE X a t):PE X (.BoolOp op [a] pos) t:=fun pins s σ H Q I hw=>BoolOp_one (h pins s σ H Q I hw)
theorem jg (ha:PE X a ta) (hb:PE X (.BoolOp .And (b::cu) pos) tb):PE X (.BoolOp .And (a::b::cu) pos) (FI ta tb):=by
 intro pins s σ H Q I h
 refine BoolOp_and (R4 (ha pins s σ H _ I h) fun v s1 ⟨x,H1,I1,r1,q1⟩=>?_)
 obtain ⟨c,rfl,q1⟩:=q1
 cases r1
 refine P4 ?_
 cases c with
 | true=>exact hb pins s1 σ H1 Q I1 q1
 | false=>exact ⟨.bl false,H1,I1,rfl,q1⟩
theorem DB (ha:PE X a ta):PE X (.UnaryOp .Not a pos) (FA ta):=by
 intro pins s σ H Q I h
 refine UnaryOp_ (R4 (ha pins s σ H _ I h) fun v s1 ⟨x,H1,I1,r1,q1⟩=>?_)
 obtain ⟨c,rfl,q1⟩:=q1
 cases r1
 exact not_of (P4 ⟨.bl (!c),H1,I1,rfl,q1⟩)
noncomputable def tIf (t:TT) (ta tb:TE):TE:=fun σ H Q=>t σ H fun c H1=>if c=true then ta σ H1 Q else tb σ H1 Q
theorem yW {c:Expr} (hc:PT X c tA) (ha:PE X a ta) (hb:PE X b tb):PE X (.IfExp c a b pos) (tIf tA ta tb):=by
 intro pins s σ H Q I h
 refine wpAny_IfExp (R4 (hc pins s σ H _ I h) fun d s1 ⟨H1,I1,q1⟩=>?_)
 cases d with
 | true=>exact ha pins s1 σ H1 Q I1 q1
 | false=>exact hb pins s1 σ H1 Q I1 q1
end
noncomputable def eA (K:m6) (H:Hp) (a:Addr) (xs:List V):Prop :=
 Rd H a (.lst xs) ∨
  ∃(o:Obj) (its:Array b8) (n:Nat),K.lookup a=some o/\o.cls=.type "list"/\o.dict=none/\o.data=.seq its n/\its.size<=i8/\J2 xs its.toList
noncomputable def bV (K:m6) (H:Hp) (a:Addr) (xs:List V):Prop :=
 Rd H a (.tup xs) ∨
  ∃(o:Obj) (its:Array b8) (n:Nat),K.lookup a=some o/\o.cls=.type "tuple"/\o.data=.seq its n/\its.size<=i8/\J2 xs its.toList
noncomputable def absV:b8->Option V
 | .none=>some .non
 | .bool b=>some (.bl b)
 | .int i _=>some (.int i)
 | .str x _=>some (.str x)
 | .bytes b _=>some (.byt b)
 | .float b _=>some (.flt b)
 | .ref a=>some (.ref a)
 | .type n=>some (.ty n)
 | _=>none
variable {u:b8}
theorem J3.abs {x:V}(r:J3 x u):absV u=some x:=by
 cases x with
 | non=>cases r;rfl
 | bl _=>cases r;rfl
 | int _=>obtain ⟨t,rfl⟩:=r;rfl
 | str _=>obtain ⟨t,rfl⟩:=r;rfl
 | byt _=>obtain ⟨t,rfl⟩:=r;rfl
 | flt _=>obtain ⟨t,rfl⟩:=r;rfl
 | ref _=>cases r;rfl
 | ty _=>cases r;rfl
theorem J3.inj {x y:V}(r:J3 x u) (q:J3 y u):x=y:=E2 (r.abs.symm.trans q.abs)
theorem J2.inj:∀{xs ys:List V}{us:List b8},J2 xs us->J2 ys us->xs=ys
 | _,_,_,.nil,.nil=>rfl
 | _,_,_,.cons r t,.cons r' t'=>by rw[r.inj r',J2.inj t t']
section
variable {X:Cx}{pins:List (Addr × Obj)}{σ:St}{H:Hp}{s:b9}{a:Addr}{xs ys:List V}
theorem eA.of {K:m6} (h:H a=some (.lst xs)):eA K H a xs:=.inl (.inl h)
theorem bV.of {K:m6} (h:H a=some (.tup xs)):bV K H a xs:=.inl (.inl h)
theorem A9.list (I:A9 X pins σ H s) (h:eA X.K H a xs):∃its:List b8,J2 xs its/\PlainL s.heap a its.toArray/\xs.length<=i8:=by
 rcases h with h|⟨o,its,n,hk,hc,hd,hs,hz,r⟩
 ·obtain ⟨z,its,n,r,e⟩:=h.ok I.hok
  exact ⟨its,r,⟨_,n,e,rfl,rfl,rfl⟩,z⟩
 ·refine ⟨its.toList,r,⟨o,n,I.kIn a o hk,hc,hd,by simpa using hs⟩,?_⟩
  have e:=r.length
  simp only[A8] at e
  lia
theorem A9.tuple (I:A9 X pins σ H s) (h:bV X.K H a xs):∃its:List b8,J2 xs its/\wO s.heap a its.toArray/\xs.length<=i8:=by
 rcases h with h|⟨o,its,n,hk,hc,hs,hz,r⟩
 ·obtain ⟨z,its,r,p⟩:=h.ok I.hok
  exact ⟨its,r,p,z⟩
 ·refine ⟨its.toList,r,⟨o,I.kIn a o hk,hc,n,by simpa using hs⟩,?_⟩
  have e:=r.length
  simp only[A8] at e
  lia
theorem A9.list_inj (I:A9 X pins σ H s) (h:eA X.K H a xs) (h':eA X.K H a ys):xs=ys:=by
 obtain ⟨its,r,⟨o,n,e,_,_,d⟩,_⟩:=I.list h
 obtain ⟨its',r',⟨o',n',e',_,_,d'⟩,_⟩:=I.list h'
 rw[e] at e';cases e'
 rw[d] at d'
 injection d' with d1 _
 have:its=its':=by simpa using congrArg Fs d1
 subst this
 exact r.inj r'
theorem A9.tuple_inj (I:A9 X pins σ H s) (h:bV X.K H a xs) (h':bV X.K H a ys):xs=ys:=by
 obtain ⟨its,r,⟨o,e,_,n,d⟩,_⟩:=I.tuple h
 obtain ⟨its',r',⟨o',e',_,n',d'⟩,_⟩:=I.tuple h'
 rw[e] at e';cases e'
 rw[d] at d'
 injection d' with d1 _
 have:its=its':=by simpa using congrArg Fs d1
 subst this
 exact r.inj r'
end
noncomputable abbrev Cx.wish (X:Cx) (E:b8->b9->Prop):Cx:={ X with xe:=E }
noncomputable abbrev Cx.nox (X:Cx):Cx:=X.wish fun _ _=>False
theorem Cx.Ok.wish {X:Cx} (ok:X.Ok) (E:b8->b9->Prop):(X.wish E).Ok :=
 ⟨ok.mod,ok.kind,ok.glob,ok.blt,ok.above,ok.inj,ok.has,ok.cab,ok.hd,ok.frames,ok.stk,ok.exf,ok.bs,ok.bsz,ok.noex,ok.exfs,ok.funs,ok.frf⟩
theorem Cx.Ok.unwish (ok:(X.wish E).Ok):X.Ok :=
 ⟨ok.mod,ok.kind,ok.glob,ok.blt,ok.above,ok.inj,ok.has,ok.cab,ok.hd,ok.frames,ok.stk,ok.exf,ok.bs,ok.bsz,ok.noex,ok.exfs,ok.funs,ok.frf⟩
section
variable {X:Cx}{pins:List (Addr × Obj)}{σ:St}{H:Hp}{s:b9}{E:b8->b9->Prop}
theorem A9.wish (I:A9 X pins σ H s) (E:b8->b9->Prop):A9 (X.wish E) pins σ H s:=⟨I.ok.wish E,I.os,I.bare,I.base,I.loc,I.cell,I.free,I.freeC,I.pin,I.hok,I.len⟩
theorem A9.unwish (I:A9 (X.wish E) pins σ H s):A9 X pins σ H s:=⟨I.ok.unwish,I.os,I.bare,I.base,I.loc,I.cell,I.free,I.freeC,I.pin,I.hok,I.len⟩
theorem SP.unwish {D:mG}{f:Flow}{s':b9} (h:SP (X.wish E) pins D f s'):SP X pins D f s':=by
 cases f with
 | next=>obtain ⟨σ',H',I,q⟩:=h;exact ⟨σ',H',I.unwish,q⟩
 | brk=>obtain ⟨σ',H',I,q⟩:=h;exact ⟨σ',H',I.unwish,q⟩
 | cont=>obtain ⟨σ',H',I,q⟩:=h;exact ⟨σ',H',I.unwish,q⟩
 | ret u=>obtain ⟨v,σ',H',I,r,q⟩:=h;exact ⟨v,σ',H',I.unwish,r,q⟩
theorem qv.nox {st:List Stmt}{t:TS} (h:qv X.nox st t):qv X st t:=fun pins s σ H D I hw =>
 F9 (h pins s σ H D (I.wish _) hw) (fun _ _ q=>q.unwish) fun _ _ z=>U8 z
end
section
variable {X:Cx}{st:Stmt}{cu:List Stmt}{t u:TS}{e:Expr}{te:TE}{pos:Pos}
noncomputable def FD:TS:=fun D σ H=>D.nx σ H
noncomputable def oj (t u:TS):TS:=fun D σ H=>t { D with nx:=u D } σ H
theorem J1:qv X [] FD:=fun _ _ σ H _ I h=>iE ⟨σ,H,I,h⟩
theorem m9 (h1:PS X st t) (h2:qv X cu u):qv X (st::cu) (oj t u):=by
 intro pins s σ H D I h
 refine HU (R4 (h1 pins s σ H { D with nx:=u D } I h) fun f s1 q=>?_)
 cases f with
 | next =>
  obtain ⟨σ',H',I',q⟩:=q
  exact h2 pins s1 σ' H' D I' q
 | ret v=>exact q
 | brk=>exact q
 | cont=>exact q
theorem q5 (h1:PS X st t):qv X [st] t:=by
 intro pins s σ H D I h
 refine HU (R4 (h1 pins s σ H D I h) fun f s1 q=>?_)
 cases f with
 | next=>exact iE q
 | ret v=>exact q
 | brk=>exact q
 | cont=>exact q
theorem A9.quiet {pins:List (Addr × Obj)}{σ:St}{H:Hp}{s:b9} (I:A9 X pins σ H s):interactive X.env=false:=by simp[interactive,I.ok.kind]
noncomputable def FF (te:TE):TS:=fun D σ H=>te σ H fun _ H1=>D.nx σ H1
theorem bS (he:PE X e te) (hs:qI e none pos.line X.env=pure false:=by rfl):PS X (.Expr e pos) (FF te):=by
 intro pins s σ H D I h
 exact wpAny_Expr_any (R4 (he pins s σ H _ I h) fun v s1 ⟨x,H1,I1,r1,q1⟩=>⟨σ,H1,I1,q1⟩) I.quiet hs
noncomputable def tRet (te:TE):TS:=fun D σ H=>te σ H D.rt
theorem B8 (he:PE X e te):PS X (.Return (some e) pos) (tRet te):=by
 intro pins s σ H D I h
 exact wpAny_Return_some (R4 (he pins s σ H _ I h) fun v s1 ⟨x,H1,I1,r1,q1⟩=>⟨x,σ,H1,I1,r1,q1⟩)
noncomputable def tIfS (c:TT) (t u:TS):TS:=fun D σ H=>c σ H fun b H1=>if b=true then t D σ H1 else u D σ H1
theorem T5 {c:Expr}{a b:List Stmt}{tc:TT} (hc:PT X c tc) (ha:qv X a t) (hb:qv X b u):PS X (.If c a b pos) (tIfS tc t u):=by
 intro pins s σ H D I h
 refine wpAny_If (R4 (hc pins s σ H _ I h) fun d s1 ⟨H1,I1,q1⟩=>?_)
 cases d with
 | true=>exact ha pins s1 σ H1 D I1 q1
 | false=>exact hb pins s1 σ H1 D I1 q1
end
noncomputable abbrev TG:=V->St->Hp->(St->Hp->Prop)->Prop
noncomputable abbrev Cv:=List V->St->Hp->(St->Hp->Prop)->Prop
noncomputable def PG (X:Cx) (target:Expr) (t:TG):Prop :=
 ∀(pins:List (Addr × Obj)) (s:b9) (σ:St) (H:Hp) (v:V) (u:b8) (Q:St->Hp->Prop),A9 X pins σ H s->J3 v u->t v σ H Q ->
  i5 (n0 X.prog X.w) X.A (mh target X.env u) (fun _ s'=>∃σ' H',A9 X pins σ' H' s'/\Q σ' H') X.xe s
noncomputable def GM (X:Cx) (ts:List Expr) (t:Cv):Prop :=
 ∀(pins:List (Addr × Obj)) (s:b9) (σ:St) (H:Hp) (vs:List V) (us:List b8) (Q:St->Hp->Prop),A9 X pins σ H s->J2 vs us->t vs σ H Q ->
  i5 (n0 X.prog X.w) X.A (xY ((cD ts X.env).map (·.2)) us) (fun _ s'=>∃σ' H',A9 X pins σ' H' s'/\Q σ' H') X.xe s
noncomputable abbrev Ei:=V->V->V->Hp->(Hp->Prop)->Prop
noncomputable def GL (X:Cx) (t:Ei):Prop :=
 ∀(pins:List (Addr × Obj)) (s:b9) (σ:St) (H:Hp) (o i v:V) (ov iv u:b8) (Q:Hp->Prop),A9 X pins σ H s->J3 o ov->J3 i iv->J3 v u->t o i v H Q ->
  i5 (n0 X.prog X.w) X.A (setItem ov iv u) (fun _ s'=>∃H',A9 X pins σ H' s'/\Q H') X.xe s
section
variable {X:Cx}{pos:Pos}
noncomputable def T6 (i:Nat):TG:=fun v σ H Q=>Q (σ.set i (some v)) H
theorem O0 {i:Nat}{x:Str} (hN:X.N.Nodup) (hi:X.N[i]?=some x) (hx:GP X.env.scope x) (hf:X.fn x=true ∨ X.env.scope.names.lookup x=some .local:=by first|exact .inl rfl|exact .inr rfl|assumption):PG X (.Name x pos) (T6 i):=by
 intro pins s σ H v u Q I r h
 exact Hc (gU I hN hi hx r (fun s' I'=>⟨_,H,I',h⟩) hf)
noncomputable def sf:Cv:=fun vs σ H Q=>vs=[]/\Q σ H
noncomputable def bL (t:TG) (u:Cv):Cv:=fun vs σ H Q=>∃v r,vs=v::r/\t v σ H fun σ' H'=>u r σ' H' Q
theorem R5:GM X [] sf:=by
 intro pins s σ H vs us Q I r h
 obtain ⟨e,h⟩:=h
 subst e
 cases r
 exact Hv ⟨σ,H,I,h⟩
theorem v9 {e:Expr}{es:List Expr}{t:TG}{u:Cv} (h1:PG X e t) (h2:GM X es u)
  (hs:(cD (e::es) X.env).map (·.2)=mh e X.env::(cD es X.env).map (·.2):=by rfl):GM X (e::es) (bL t u):=by
 intro pins s σ H vs us Q I r h
 obtain ⟨v,vr,e1,h⟩:=h
 subst e1
 cases r with
 | cons r rr =>
  rw[hs]
  refine mf (R4 (h1 pins s σ H _ _ _ I r h) fun _ s1 ⟨σ1,H1,I1,q1⟩=>?_)
  exact h2 pins s1 σ1 H1 _ _ Q I1 rr q1
noncomputable def pW (K:m6) (n:Nat) (t:Cv):TG:=fun v σ H Q=>∃a xs,v=.ref a/\bV K H a xs/\xs.length=n/\t xs σ H Q
theorem je {es:List Expr}{k:Nat}{t:Cv}{n:Nat} (hc:X.calm=true) (h:GM X es t)
  (hn:(cD es X.env).length=n:=by rfl) (hst:(cD es X.env).findIdx? (·.1)=none:=by rfl):PG X (.Tuple es k pos) (pW X.K n t):=by
 intro pins s σ H v u Q I r hw
 obtain ⟨a,xs,e1,hq,hl,hw⟩:=hw
 subst e1
 cases r
 obtain ⟨its,rv,ht,hz⟩:=I.tuple hq
 refine assign_Tuple_tuple (I.ok.hd hc) ht (by simp[hn,<- hl,rv.length]) hst fun h' hx=>?_
 have I1:A9 X pins σ H { s with heap:=h' }:=I.kept (t':=s.toks) fun b o e=>hx b o (q9 (i4 e)) e
 exact h pins _ σ H xs _ Q I1 (by simpa using rv) hw
noncomputable def gSub (to ti:TE) (t:Ei):TG:=fun v σ H Q=>to σ H fun o H1=>ti σ H1 fun i H2=>t o i v H2 fun H3=>Q σ H3
theorem oX {o i:Expr}{to ti:TE}{t:Ei} (ho:PE X o to) (hi:PE X i ti) (hs:GL X t)
  (ha:∀v,mh (.Subscript o i pos) X.env v=(do
   let ov <- Hu [v] (eval o X.env)
   let iv <- Hu [v,ov] (eval i X.env)
   standAt pos
   Hu [v,ov,iv] (setItem ov iv v)
   release [v,ov,iv] []):=by intro _;rfl):PG X (.Subscript o i pos) (gSub to ti t):=by
 intro pins s σ H v u Q I r h
 rw[ha]
 refine b5 (M7 (R4 (ho pins s σ H _ I h) fun ov s1 ⟨x,H1,I1,r1,q1⟩=>?_))
 refine b5 (M7 (R4 (hi pins s1 σ H1 _ I1 q1) fun iv s2 ⟨y,H2,I2,r2,q2⟩=>?_))
 refine b5 (lQ (b5 (M7 (R4 (hs pins s2 σ H2 x y v ov iv u _ I2 r1 r2 r q2) fun _ s3 ⟨H3,I3,q3⟩=>?_))))
 exact wpAny_release ⟨σ,H3,I3,q3⟩
noncomputable def FH (te:TE) (g:TG):TS:=fun D σ H=>te σ H fun x H1=>g x σ H1 D.nx
theorem oQ {tg e:Expr}{te:TE}{g:TG} (he:PE X e te) (hg:PG X tg g) (hs:swapsWithSole [tg] e pos.line X.env=pure false:=by rfl) (hw:swappedStores [tg] e X.env=pure none:=by rfl)
  (h1:(cD [tg] X.env).map (·.2)=[mh tg X.env]:=by rfl):PS X (.Assign [tg] e pos) (FH te g):=by
 intro pins s σ H D I h
 refine wpAny_Assign_stores (R4 (he pins s σ H _ I h) fun v s1 ⟨x,H1,I1,r1,q1⟩=>?_) hs hw
 rw[h1]
 exact R4 (hg pins s1 σ H1 x v _ I1 r1 q1) fun _ s2 q=>q
theorem G4 {i:Nat}{x:Str}{e:Expr}{te:TE}{pos':Pos} (hN:X.N.Nodup) (hi:X.N[i]?=some x) (hx:GP X.env.scope x) (he:PE X e te) (hs:qI e (some (.Name x pos')) pos.line X.env=pure false:=by rfl) (hf:X.fn x=true ∨ X.env.scope.names.lookup x=some .local:=by first|exact .inl rfl|exact .inr rfl|assumption):
  PS X (.Assign [.Name x pos'] e pos) (FH te (T6 i)):=by
 intro pins s σ H D I h
 refine wpAny_Assign_Name (R4 (he pins s σ H _ I h) fun v s1 ⟨y,H1,I1,r1,q1⟩=>?_) hs
 exact gU I1 hN hi hx r1 (fun s2 I2=>⟨_,H1,I2,q1⟩) hf
noncomputable def tPar (i j:Nat) (ta:TA):TS:=fun D σ H=>ta σ H fun vs H1=>∃v w,vs=[v,w]/\D.nx ((σ.set i (some v)).set j (some w)) H1
theorem lq {i j:Nat}{x y:Str}{a b:Expr}{ta:TA}{px py pt:Pos}{kt k2 pt2} (hc:X.calm=true) (hN:X.N.Nodup) (hi:X.N[i]?=some x) (hj:X.N[j]?=some y) (hij:i≠j)
  (hx:X.env.scope.names.lookup x=some .local) (hy:X.env.scope.names.lookup y=some .local) (ha:PA X [a,b] ta)
  (hw:swappedStores [.Tuple [.Name x px,.Name y py] kt pt] (.Tuple [a,b] k2 pt2) X.env=pure (some [x,y]))
  (hs:swapsWithSole [.Tuple [.Name x px,.Name y py] kt pt] (.Tuple [a,b] k2 pt2) pos.line X.env=pure false:=by rfl):
  PS X (.Assign [.Tuple [.Name x px,.Name y py] kt pt] (.Tuple [a,b] k2 pt2) pos) (tPar i j ta):=by
 intro pins s σ H D I h
 rw[exec_Assign_arm]
 refine b5 (lQ ?_)
 rw[hs]
 refine b5 (d5 ?_)
 rw[if_neg (by decide)]
 refine b5 (Tuple_ (R4 (ha _ pins s σ H _ I h) fun us s1 ⟨vs,H1,I1,r1,q1⟩=>?_))
 obtain ⟨v,w,e1,q1⟩:=q1
 subst e1
 obtain ⟨u1,u2,rfl,rv,rw'⟩:∃u1 u2,us=[u1,u2]/\J3 v u1/\J3 w u2:=by
  cases r1 with
  | cons p q =>
   cases q with
   | cons p' q' =>
    cases q'
    exact ⟨_,_,rfl,p,p'⟩
 refine A1 ?_ (by show 2<=i8;decide)
 have I2:A9 X pins σ H1 { s1 with heap:=s1.heap.push { cls:=.type "tuple",data:=.seq [u1,u2].toArray } }:=I1.kept (t':=s1.toks) fun b o e=>d6 _ e
 rw[hw]
 refine b5 (d5 ?_)
 show i5 (n0 X.prog X.w) X.A (do rule "assign.swapped-stores";let items <- unpackItems (.ref s1.heap.objs.size) 2 none;xY [fun v=>CF X.env y v,fun v=>CF X.env x v] items.reverse;pure Flow.next) _ _ _
 refine b5 (L1 (b5 (unpackItems_tuple (items:=#[u1,u2]) (I.ok.hd hc) (kF s1.heap _) fun h' hx'=>?_)))
 have I3:=I2.kept (h':=h') (t':=s1.toks) fun b o e=>hx' b o (q9 (i4 e)) e
 show i5 _ _ (xY [fun v=>CF X.env y v,fun v=>CF X.env x v] [u2,u1] >>= fun _=>pure Flow.next) _ _ _
 refine b5 (mf (wpAny_bindName (gU I3 hN hj (.inl hy) rw' (fun s2 I4=>?_) (.inr hy))))
 refine mf (wpAny_bindName (gU I4 hN hi (.inl hx) rv (fun s3 I5=>Hv (d5 ?_)) (.inr hx)))
 rw[List.set_comm _ _ (G8 hij)] at I5
 exact ⟨_,H1,I5,q1⟩
noncomputable def CQ (c:TT) (tb:TS):TS:=fun D σ H=>∃W:Nat->St->Hp->Prop,(∃m,W m σ H)/\∀m σ H,W m σ H ->
 c σ H fun b H1=>if b=true then ∃N:St->Hp->Prop,(∀σ' H',N σ' H'->∃m',m'<m/\W m' σ' H')/\tb { D with nx:=N,ct:=N,bk:=D.nx } σ H1 else D.nx σ H1
theorem rC {c:Expr}{body:List Stmt}{tc:TT}{tb:TS} (hp:PassesOwn (n0 X.prog X.w) X.A X.env X.xe) (hc:PT X c tc) (hb:qv X body tb):PS X (.While c body [] pos) (CQ tc tb):=by
 intro pins s σ H D I h
 obtain ⟨W,⟨m0,w0⟩,turn⟩:=h
 refine wpAny_While (codeAny_whileLoop (fun n s'=>∃σ' H',A9 X pins σ' H' s'/\W n σ' H') ?_ m0 ⟨σ,H,I,w0⟩)
 rintro n s1 ⟨σ1,H1,I1,w1⟩
 refine Y2 hp (R4 (hc pins s1 σ1 H1 _ I1 (turn n σ1 H1 w1)) fun b s2 ⟨H2,I2,q2⟩=>?_)
 cases b with
 | true =>
  obtain ⟨N,hN,q2⟩:=q2
  rw[if_pos rfl]
  refine Y2 hp (R4 (hb pins s2 σ1 H2 _ I2 q2) fun f s3 q3=>?_)
  cases f with
  | next =>
   obtain ⟨σ3,H3,I3,n3⟩:=q3
   obtain ⟨m',hm,w3⟩:=hN σ3 H3 n3
   exact ⟨m',hm,σ3,H3,I3,w3⟩
  | cont =>
   obtain ⟨σ3,H3,I3,n3⟩:=q3
   obtain ⟨m',hm,w3⟩:=hN σ3 H3 n3
   exact ⟨m',hm,σ3,H3,I3,w3⟩
  | brk=>exact q3
  | ret v=>exact q3
 | false =>
  rw[if_neg n9]
  exact iE ⟨σ1,H2,I2,q2⟩
end
structure It where
 go:Nat->Hp->Prop
 yld:Nat->Hp->V->Hp->Prop
 stop:Nat->Hp->Prop
noncomputable def jX (X:Cx) (pins:List (Addr × Obj)) (H:Hp) (b:Addr):Prop :=
 H b=none/\b≠X.env.locals/\b ∉ X.fs/\(b∈X.ex ∨ X.s₀.heap.objs.size<=b)/\(∀x c,X.env.cells.lookup x=some c->c≠b)/\∀p∈X.pn++pins,p.1≠b
variable {σ:St}
theorem A9.fpOk {pins:List (Addr × Obj)}{H':Hp}(I:A9 X pins σ H s) (hb:s.heap.objs.size<=b) (hn:H' b=none):jX X pins H' b:=by
 refine ⟨hn,B4 (w9 I.lt hb),I.nofs hb,.inr (f9 I.sz hb),fun x c e z=>?_,fun p hp z=>?_⟩
 ·obtain ⟨v,q⟩:=I.cell x c e
  exact absurd (w9 q.lt (by rw[z];exact hb)) (T3 _)
 ·exact absurd (w9 (i4 (I.pin p hp).1) (by rw[z];exact hb)) (T3 _)
structure qt (P:f6) (w:j6) (K:m6) (tg:Expr) (J:It) (fp:List Addr) (it:Addr) (tn:Nat->Heap->Prop):Prop where
 mem:it∈fp
 obj:∀i h,tn i h->∀b∈fp,∃o,h.get? b=some o/\∀v,o.data≠.cell v
 keep:∀i h h',tn i h->(∀b∈fp,∀o,h.get? b=some o->h'.get? b=some o)->tn i h'
 item:∀(X:Cx),X.prog=P->X.w=w->X.K=K->X.calm=true->∀(i:Nat) (pins:List (Addr × Obj)) (s:b9) (σ:St) (H:Hp) (E:b8->b9->Prop),A9 X pins σ H s->(∀b∈fp,jX X pins H b)->tn i s.heap->J.go i H ->
  i5 (n0 P w) X.A (ah (.ref it)) (fun r s1=>∃u,r=some u /\
   i5 (n0 P w) X.A (iG tg (.ref it) u) (fun _ s2=>∃x H',A9 X pins σ H' s2/\J3 x u/\J.yld i H x H'/\tn (i+1) s2.heap/\∀b∈fp,H' b=none) E s1) E s
 done:∀(X:Cx),X.prog=P->X.w=w->X.K=K->X.calm=true->∀(i:Nat) (pins:List (Addr × Obj)) (s:b9) (σ:St) (H:Hp) (E:b8->b9->Prop),A9 X pins σ H s->(∀b∈fp,jX X pins H b)->tn i s.heap->J.stop i H ->
  i5 (n0 P w) X.A (ah (.ref it)) (fun r s1=>r=none/\A9 X pins σ H s1) E s
 self:∀(A:r6) (i:Nat) (s:b9) (Q:b8->b9->Prop) (E:b8->b9->Prop),tn i s.heap->Q (.ref it) s->i5 (n0 P w) A (jN (.ref it)) Q E s
noncomputable abbrev TI:=St->Hp->(It->Hp->Prop)->Prop
noncomputable def HN (X:Cx) (pins:List (Addr × Obj)) (σ:St) (tg:Expr) (R:It->Hp->Prop) (itv:b8) (s2:b9):Prop :=
 ∃(it:Addr) (fp:List Addr) (tn:Nat->Heap->Prop) (J:It) (H':Hp),itv=.ref it/\A9 X pins σ H' s2/\qt X.prog X.w X.K tg J fp it tn/\tn 0 s2.heap/\(∀b∈fp,jX X pins H' b)/\R J H'
noncomputable def PI (X:Cx) (tg iter:Expr) (wi:TI):Prop :=
 ∀(pins:List (Addr × Obj)) (s:b9) (σ:St) (H:Hp) (R:It->Hp->Prop),A9 X pins σ H s->wi σ H R ->
  i5 (n0 X.prog X.w) X.A (eval iter X.env) (fun v s1=>i5 (n0 X.prog X.w) X.A (jN v) (HN X pins σ tg R) X.xe s1) X.xe s
variable {tg:Expr}
theorem zL {M:lW}{it:Addr}{o:Obj}{n:String}{vs:Array b8}{Q:Unit->b9->Prop} (ho:s.heap.get? it=some o) (hc:o.cls=.type n) (hd:o.data=.fields vs)
  (hn:["enumerate","zip","dict_itemiterator","dict_reverseitemiterator","odict_iterator","itertools.zip_longest","itertools.pairwise"].contains n=false) (hQ:Q () s):i5 M A (iG tg (.ref it) u) Q E s:=by
 unfold iG
 cases tg <;> first
  | exact d5 hQ
  | (cases u <;> first
    | exact d5 hQ
    | (refine b5 (wpAny_load ho ?_)
       rw[hc,hd]
       show i5 M A (if (["enumerate","zip","dict_itemiterator","dict_reverseitemiterator","odict_iterator","itertools.zip_longest","itertools.pairwise"].contains n&&vs[0]? == some (V7 _))=true then _ else _) Q E s
       rw[if_neg (by intro h;rw[hn,Q7] at h;cases h)]
       exact d5 hQ))
noncomputable def Cw (K:m6) (a:Addr):It :=
 ⟨fun i H=>∃xs x,eA K H a xs/\xs[i]?=some x,fun i H x H'=>H'=H/\∀xs,eA K H a xs->xs[i]?=some x,fun i H=>∃xs,eA K H a xs/\xs.length<=i⟩
noncomputable def EO (K:m6) (a:Addr):It :=
 ⟨fun i H=>∃xs x,bV K H a xs/\xs[i]?=some x,fun i H x H'=>H'=H/\∀xs,bV K H a xs->xs[i]?=some x,fun i H=>∃xs,bV K H a xs/\xs.length<=i⟩
noncomputable def Em (lo:Int) (n:Nat):It:=⟨fun i _=>i<n,fun i H x H'=>H'=H/\x=.int (lo+i),fun i _=>n<=i⟩
variable {K:m6}
theorem wU (a it:Addr):qt P w K tg (Cw K a) [it] it (fun i h=>h.IsListIter it a i) where
 mem:=by simp
 obj:=fun i h st b hb=>by
  have e:b=it:=by simpa using hb
  subst e
  obtain ⟨o,e,c,d⟩:=st
  exact ⟨o,e,fun v z=>by rw[d] at z;cases z⟩
 keep:=fun i h h' st k=>st.at fun o e=>k it (by simp) o e
 item:=by
  intro X hP hw hK hc i pins s σ H E I hf st hg
  subst hP hw hK
  obtain ⟨xs,x,hq,hx⟩:=hg
  obtain ⟨its,rv,p,hz⟩:=I.list hq
  obtain ⟨u,hu,ru⟩:=rv.get hx
  obtain ⟨f0,f1,f2,f3,f4,f5⟩:=hf it (by simp)
  refine wpAny_pyNext_list_item st p.isList (x:=u) (by simpa using hu) fun h' st' sb=>?_
  have I1:A9 X pins σ H { s with heap:=h' }:=I.turned (t':=s.toks) (fun b o hb e=>(sb.2 b hb).trans e) f0 f1 f3 f4 f5
  obtain ⟨o,e,c,d⟩:=id st'
  exact ⟨u,rfl,zL (s:={ s with heap:=h' }) e c d (by decide) ⟨x,H,I1,ru,⟨rfl,fun ys hy=>by rw[I.list_inj hy hq];exact hx⟩,st',fun b hb=>(hf b hb).1⟩⟩
 done:=by
  intro X hP hw hK hc i pins s σ H E I hf st hg
  subst hP hw hK
  obtain ⟨xs,hq,hx⟩:=hg
  obtain ⟨its,rv,p,hz⟩:=I.list hq
  obtain ⟨f0,f1,f2,f3,f4,f5⟩:=hf it (by simp)
  have hl:=rv.length
  exact wpAny_pyNext_list_end (I.ok.hd hc) st p.isList (by simp;lia) fun h' eb=>⟨rfl,I.turned (t':=s.toks) (fun b o hb e=>eb b o hb e) f0 f1 f3 f4 f5⟩
 self:=fun _ _ _ _ _ st h=>wpAny_pyIter_listiter st h
theorem tP (a it:Addr):qt P w K tg (EO K a) [it] it (fun i h=>h.IsTupleIter it a i) where
 mem:=by simp
 obj:=fun i h st b hb=>by
  have e:b=it:=by simpa using hb
  subst e
  obtain ⟨o,e,c,d⟩:=st
  exact ⟨o,e,fun v z=>by rw[d] at z;cases z⟩
 keep:=fun i h h' st k=>st.at fun o e=>k it (by simp) o e
 item:=by
  intro X hP hw hK hc i pins s σ H E I hf st hg
  subst hP hw hK
  obtain ⟨xs,x,hq,hx⟩:=hg
  obtain ⟨its,rv,p,hz⟩:=I.tuple hq
  obtain ⟨u,hu,ru⟩:=rv.get hx
  obtain ⟨f0,f1,f2,f3,f4,f5⟩:=hf it (by simp)
  refine wpAny_pyNext_tuple_item st (show s.heap.IsTuple a its.toArray from p) (x:=u) (by simpa using hu) fun h' st' sb=>?_
  have I1:A9 X pins σ H { s with heap:=h' }:=I.turned (t':=s.toks) (fun b o hb e=>(sb.2 b hb).trans e) f0 f1 f3 f4 f5
  obtain ⟨o,e,c,d⟩:=id st'
  exact ⟨u,rfl,zL (s:={ s with heap:=h' }) e c d (by decide) ⟨x,H,I1,ru,⟨rfl,fun ys hy=>by rw[I.tuple_inj hy hq];exact hx⟩,st',fun b hb=>(hf b hb).1⟩⟩
 done:=by
  intro X hP hw hK hc i pins s σ H E I hf st hg
  subst hP hw hK
  obtain ⟨xs,hq,hx⟩:=hg
  obtain ⟨its,rv,p,hz⟩:=I.tuple hq
  obtain ⟨f0,f1,f2,f3,f4,f5⟩:=hf it (by simp)
  have hl:=rv.length
  exact wpAny_pyNext_tuple_end (I.ok.hd hc) st (show s.heap.IsTuple a its.toArray from p) (by simp;lia) fun h' eb=>⟨rfl,I.turned (t':=s.toks) (fun b o hb e=>eb b o hb e) f0 f1 f3 f4 f5⟩
 self:=fun _ _ _ _ _ st h=>wpAny_pyIter_tupleiter st h
theorem tQ (it:Addr) (lo:Int) (n:Nat):qt P w K tg (Em lo n) [it] it (fun i h=>IsRangeIter h it (lo+(i:Nat)*1) ((n:Int) - (i:Nat)) 1) where
 mem:=by simp
 obj:=fun i h st b hb=>by
  have e:b=it:=by simpa using hb
  subst e
  exact ⟨_,st,fun v z=>by
   have z':Data.fields _=Data.cell v:=z
   cases z'⟩
 keep:=fun i h h' st k=>k it (by simp) _ st
 item:=by
  intro X hP hw hK hc i pins s σ H E I hf st hg
  subst hP hw hK
  obtain ⟨f0,f1,f2,f3,f4,f5⟩:=hf it (by simp)
  have W:=Walks.range (prog:=X.prog) (w:=X.w) (I.ok.hd hc) it lo 1 n
  refine W.item i s _ _ hg st fun v h' tk hv st' kk=>?_
  obtain ⟨t,rfl⟩:=hv
  have I1:A9 X pins σ H { s with heap:=h',toks:=tk }:=I.turned (fun b o hb e=>kk b o (by simpa using hb) e) f0 f1 f3 f4 f5
  refine ⟨_,rfl,zL (s:={ s with heap:=h',toks:=tk }) (n:="range_iterator") st' rfl rfl (by decide) ⟨.int (lo+i),H,I1,⟨t,?_⟩,⟨rfl,rfl⟩,st',fun b hb=>(hf b hb).1⟩⟩
  rw[Int.mul_one]
 done:=by
  intro X hP hw hK hc i pins s σ H E I hf st hg
  subst hP hw hK
  obtain ⟨f0,f1,f2,f3,f4,f5⟩:=hf it (by simp)
  exact wpAny_pyNext_range_end (I.ok.hd hc) st (by have:n<=i:=hg;lia) fun h' eb=>⟨rfl,I.turned (t':=s.toks) (fun b o hb e=>eb b o hb e) f0 f1 f3 f4 f5⟩
 self:=fun _ _ _ _ _ st h=>wpAny_pyIter_rangeiter st h
section
variable {X:Cx}{tg:Expr}
noncomputable def GB (K:m6) (tl:TE):TI:=fun σ H R=>tl σ H fun x H1=>∃a,x=.ref a/\(∃xs,eA K H1 a xs)/\R (Cw K a) H1
noncomputable def iTup (K:m6) (tl:TE):TI:=fun σ H R=>tl σ H fun x H1=>∃a,x=.ref a/\(∃xs,bV K H1 a xs)/\R (EO K a) H1
theorem V2 {l:Expr}{tl:TE} (hl:PE X l tl):PI X tg l (GB X.K tl):=by
 intro pins s σ H R I h
 refine R4 (hl pins s σ H _ I h) fun v s1 ⟨x,H1,I1,r1,q1⟩=>?_
 obtain ⟨a,e,⟨xs,hq⟩,q⟩:=q1
 subst e
 cases r1
 obtain ⟨its,rv,p,hz⟩:=I1.list hq
 refine nK p.isList ?_
 refine ⟨s1.heap.objs.size,[s1.heap.objs.size],_,_,H1,rfl,I1.kept (t':=s1.toks) fun b o e=>d6 _ e,wU a _,⟨_,n5 _ rfl,rfl,rfl⟩,fun b hb=>?_,q⟩
 have e:b=s1.heap.objs.size:=by simpa using hb
 subst e
 exact I1.fpOk (d9 _) (I1.hok.fresh (d9 _))
theorem oW {l:Expr}{tl:TE} (hl:PE X l tl):PI X tg l (iTup X.K tl):=by
 intro pins s σ H R I h
 refine R4 (hl pins s σ H _ I h) fun v s1 ⟨x,H1,I1,r1,q1⟩=>?_
 obtain ⟨a,e,⟨xs,hq⟩,q⟩:=q1
 subst e
 cases r1
 obtain ⟨its,rv,p,hz⟩:=I1.tuple hq
 refine X8 (show s1.heap.IsTuple a its.toArray from p) ?_
 refine ⟨s1.heap.objs.size,[s1.heap.objs.size],_,_,H1,rfl,I1.kept (t':=s1.toks) fun b o e=>d6 _ e,tP a _,⟨_,n5 _ rfl,rfl,rfl⟩,fun b hb=>?_,q⟩
 have e:b=s1.heap.objs.size:=by simpa using hb
 subst e
 exact I1.fpOk (d9 _) (I1.hok.fresh (d9 _))
variable {pins:List (Addr × Obj)}{σ:St}{H:Hp}{s:b9}
theorem yG {R:It->Hp->Prop}{E:b8->b9->Prop}{lo hi:Int}{t u v:Tok}{tk:Nat} (I:A9 X pins σ H s) (h1:-(2 ^ 62)<=lo) (h2:lo<2 ^ 62) (h3:-(2 ^ 62)<=hi) (h4:hi<2 ^ 62)
  (q:R (Em lo (hi - lo).toNat) H):i5 (n0 X.prog X.w) X.A (jN (.ref s.heap.objs.size)) (HN X pins σ tg R) E { s with heap:=s.heap.push { cls:=.type "range",data:=.fields #[.int lo t,.int hi u,.int 1 v] },toks:=tk }:=by
 refine wpAny_pyIter_range (IsRange.new ..) (small_one h1 h2 h3 h4) ?_
 have I1:A9 X pins σ H { s with heap:=s.heap.push { cls:=.type "range",data:=.fields #[.int lo t,.int hi u,.int 1 v] },toks:=tk }:=I.kept fun b o e=>d6 _ e
 refine ⟨(s.heap.push { cls:=.type "range",data:=.fields #[.int lo t,.int hi u,.int 1 v] }).objs.size,[(s.heap.push { cls:=.type "range",data:=.fields #[.int lo t,.int hi u,.int 1 v] }).objs.size],_,_,H,rfl,
  I1.kept (t':=tk) fun b o e=>d6 _ e,tQ _ lo (hi - lo).toNat,?_,fun b hb=>?_,q⟩
 ·have e1:lo+((0:Nat):Int)*1=lo:=by simp
  have e2:(((hi - lo).toNat:Nat):Int) - ((0:Nat):Int)=Builtin.Range.rangeSize lo hi 1:=by rw[rangeSize_one];split <;> lia
  show IsRangeIter _ _ (lo+((0:Nat):Int)*1) ((((hi - lo).toNat:Nat):Int) - ((0:Nat):Int)) 1
  rw[e1,e2]
  exact n5 _ rfl
 ·have e:b=(s.heap.push { cls:=.type "range",data:=.fields #[.int lo t,.int hi u,.int 1 v] }).objs.size:=by simpa using hb
  subst e
  exact I1.fpOk (d9 _) (I1.hok.fresh (d9 _))
noncomputable def GA (ta:TA):TI:=fun σ H R=>ta σ H fun vs H1=>∃j:Int,vs=[.int j]/\-(2 ^ 62)<=j/\j<2 ^ 62/\R (Em 0 j.toNat) H1
theorem L0 {a:Expr}{ta:TA}{p pos:Pos} (hg:Gl X "range") (hm:X.mg "range"=none) (ha:PA X [a] ta) (hs:B5 [a] X.env=[(false,eval a X.env)]:=by rfl):PI X tg (.Call (.Name "range" p) [a] [] pos) (GA ta):=by
 intro pins s σ H R I h
 refine Call_ (jo I hg hm boot_range (U6 (R4 (ha pos pins s σ H _ I h) fun us s1 ⟨vs,H1,I1,r1,q1⟩=>?_) hs rfl))
 obtain ⟨j,e,q1,q2,q⟩:=q1
 subst e
 cases r1 with
 | cons r rr =>
  cases rr
  obtain ⟨t,rfl⟩:=r
  exact call_range_1 (yG I1 (by lia) (by lia) q1 q2 (by simpa using q))
noncomputable def FE (wi:TI) (g:TG) (tb:TS):TS:=fun D σ H=>wi σ H fun J H1=>∃W:Nat->Nat->St->Hp->Prop,(∃m,W 0 m σ H1)/\∀i m σ H,W i m σ H ->
 (J.stop i H/\D.nx σ H) ∨ (J.go i H/\∃N:St->Hp->Prop,(∀σ' H',N σ' H'->∃m',m'<m/\W (i+1) m' σ' H')/\∀x H',J.yld i H x H'->g x σ H' fun σ2 H2=>tb { D with nx:=N,ct:=N,bk:=D.nx } σ2 H2)
noncomputable def oV (fp:List Addr) (h:Heap):List (Addr × Obj):=fp.filterMap fun b=>(h.get? b).map fun o=>(b,o)
variable {fp:List Addr}
theorem aU {h:Heap}{b:Addr}{o:Obj} (hb:b∈fp) (e:h.get? b=some o):(b,o)∈oV fp h:=List.mem_filterMap.mpr ⟨b,hb,by rw[e];rfl⟩
theorem xo {h:Heap}{p:Addr × Obj} (hp:p∈oV fp h):p.1∈fp/\h.get? p.1=some p.2:=by
 obtain ⟨b,hb,e⟩:=List.mem_filterMap.mp hp
 cases q:h.get? b with
 | none=>rw[q] at e;cases e
 | some o =>
  rw[q] at e
  have e':(b,o)=p:=E2 e
  subst e'
  exact ⟨hb,q⟩
theorem A9.pinned (I:A9 X pins σ H s) (hf:∀b∈fp,jX X pins H b) (ho:∀b∈fp,∃o,s.heap.get? b=some o/\∀v,o.data≠.cell v):A9 X (pins++oV fp s.heap) σ H s :=
 I.pins_of fun p hp=>(List.mem_append.mp hp).elim (fun z=>I.pin p (r0 _ z)) fun z=>by
  obtain ⟨hb,e⟩:=xo z
  obtain ⟨f0,f1,f2,_⟩:=hf p.1 hb
  obtain ⟨o,e',d⟩:=ho p.1 hb
  rw[e] at e';cases e'
  exact ⟨e,f0,f1,f2,d⟩
theorem A9.unpinned {pl:List (Addr × Obj)}(I:A9 X (pins++pl) σ H s):A9 X pins σ H s:=I.pins_of fun p hp=>I.pin p (r0 _ (E9 _ hp))
theorem bH {iter:Expr}{body:List Stmt}{wi:TI}{g:TG}{tb:TS}{pos:Pos} (hp:PassesOwn (n0 X.prog X.w) X.A X.env X.xe) (hc:X.calm=true) (hi:PI X tg iter wi) (hg:PG X tg g) (hb:qv X body tb)
  (hs:∀x,nN iter X.env x=pure x:=by intro _;rfl):PS X (.For tg iter body [] pos) (FE wi g tb):=by
 intro pins s σ H D I h
 refine wpAny_For (R4 (hi pins s σ H _ I h) fun v s1 h1=>R4 h1 fun itv s2 h2=>?_) hs
 obtain ⟨it,fp,tn,J,H2,e,I2,T,st2,f2,W,⟨m0,w0⟩,turn⟩:=h2
 subst e
 have stat:∀{H':Hp},(∀b∈fp,H' b=none)->∀b∈fp,jX X pins H' b:=fun hn b hb=>⟨hn b hb,(f2 b hb).2⟩
 refine codeAny_forLoop_any (fun n s'=>∃i σ' H',A9 X pins σ' H' s'/\tn i s'.heap/\(∀b∈fp,H' b=none)/\W i n σ' H') ?_ m0 ⟨0,σ,H2,I2,st2,fun b hb=>(f2 b hb).1,w0⟩
 rintro n s3 ⟨i,σ3,H3,I3,st3,fr3,w3⟩
 rcases turn i n σ3 H3 w3 with ⟨stop,qn⟩|⟨go,N,hN,step⟩
 ·refine Y2 hp (R4 (T.done X rfl rfl rfl hc i pins s3 σ3 H3 X.xe I3 (stat fr3) st3 stop) fun r s4 ⟨hr,I4⟩=>?_)
  subst hr
  exact iE ⟨σ3,H3,I4,qn⟩
 ·refine Y2 hp (R4 (T.item X rfl rfl rfl hc i pins s3 σ3 H3 X.xe I3 (stat fr3) st3 go) fun r s4 ⟨u,hr,h4⟩=>?_)
  subst hr
  refine Y2 hp (R4 h4 fun _ s5 ⟨x,H5,I5,r5,y5,st5,fr5⟩=>?_)
  have I5':=I5.pinned (stat fr5) (T.obj _ _ st5)
  refine Y2 hp (R4 (hg _ s5 σ3 H5 x u _ I5' r5 (step x H5 y5)) fun _ s6 ⟨σ6,H6,I6,q6⟩=>?_)
  refine Y2 hp (R4 (hb _ s6 σ6 H6 _ I6 q6) fun f s7 q7=>?_)
  have again:∀{σ7:St}{H7:Hp},A9 X (pins++oV fp s5.heap) σ7 H7 s7->N σ7 H7->∃m,m<n/\∃i σ' H',A9 X pins σ' H' s7/\tn i s7.heap/\(∀b∈fp,H' b=none)/\W i m σ' H':=fun {σ7 H7} I7 n7=>by
   obtain ⟨m',hm,w7⟩:=hN σ7 H7 n7
   refine ⟨m',hm,i+1,σ7,H7,I7.unpinned,T.keep _ _ _ st5 fun b hb o e=>(I7.pin (b,o) (r0 _ (r0 _ (aU hb e)))).1,fun b hb=>?_,w7⟩
   obtain ⟨o,e,d⟩:=T.obj _ _ st5 b hb
   exact (I7.pin (b,o) (r0 _ (r0 _ (aU hb e)))).2.1
  cases f with
  | next=>obtain ⟨σ7,H7,I7,n7⟩:=q7;exact again I7 n7
  | cont=>obtain ⟨σ7,H7,I7,n7⟩:=q7;exact again I7 n7
  | brk=>obtain ⟨σ7,H7,I7,q7⟩:=q7;exact ⟨σ7,H7,I7.unpinned,q7⟩
  | ret v=>obtain ⟨x7,σ7,H7,I7,r7,q7⟩:=q7;exact ⟨x7,σ7,H7,I7.unpinned,r7,q7⟩
end
variable {g:TG}{tb:TS}{D:mG}
theorem iq {xs:List V}(Pv:Nat->St->Hp->Prop) (h0:Pv 0 σ H) (hl:∀i σ H,i<=xs.length->Pv i σ H->eA K H a xs)
  (hs:∀i x σ H,xs[i]?=some x->Pv i σ H->g x σ H fun σ2 H2=>tb { D with nx:=Pv (i+1),ct:=Pv (i+1),bk:=D.nx } σ2 H2) (hd:∀σ H,Pv xs.length σ H->D.nx σ H):
  ∃W:Nat->Nat->St->Hp->Prop,(∃m,W 0 m σ H)/\∀i m σ H,W i m σ H ->
   ((Cw K a).stop i H/\D.nx σ H) ∨ ((Cw K a).go i H/\∃N:St->Hp->Prop,(∀σ' H',N σ' H'->∃m',m'<m/\W (i+1) m' σ' H')/\∀x H',(Cw K a).yld i H x H'->g x σ H' fun σ2 H2=>tb { D with nx:=N,ct:=N,bk:=D.nx } σ2 H2):=by
 refine ⟨fun i m σ H=>m=xs.length - i/\i<=xs.length/\Pv i σ H,⟨xs.length,by simp,j5 _,h0⟩,?_⟩
 rintro i m σ H ⟨rfl,hi,p⟩
 have q:=hl i σ H hi p
 by_cases hlt:i<xs.length
 ·refine .inr ⟨⟨xs,xs[i],q,by simp[hlt]⟩,Pv (i+1),fun σ' H' p'=>⟨xs.length - (i+1),by lia,rfl,hlt,p'⟩,fun x H' y=>?_⟩
  obtain ⟨e,y⟩:=y
  subst e
  exact hs i x σ _ (y xs q) p
 ·have e:i=xs.length:=by lia
  subst e
  exact .inl ⟨⟨xs,q,d9 _⟩,hd σ H p⟩
theorem BG {xs:List V}(Pv:Nat->St->Hp->Prop) (h0:Pv 0 σ H) (hl:∀i σ H,i<=xs.length->Pv i σ H->bV K H a xs)
  (hs:∀i x σ H,xs[i]?=some x->Pv i σ H->g x σ H fun σ2 H2=>tb { D with nx:=Pv (i+1),ct:=Pv (i+1),bk:=D.nx } σ2 H2) (hd:∀σ H,Pv xs.length σ H->D.nx σ H):
  ∃W:Nat->Nat->St->Hp->Prop,(∃m,W 0 m σ H)/\∀i m σ H,W i m σ H ->
   ((EO K a).stop i H/\D.nx σ H) ∨ ((EO K a).go i H/\∃N:St->Hp->Prop,(∀σ' H',N σ' H'->∃m',m'<m/\W (i+1) m' σ' H')/\∀x H',(EO K a).yld i H x H'->g x σ H' fun σ2 H2=>tb { D with nx:=N,ct:=N,bk:=D.nx } σ2 H2):=by
 refine ⟨fun i m σ H=>m=xs.length - i/\i<=xs.length/\Pv i σ H,⟨xs.length,by simp,j5 _,h0⟩,?_⟩
 rintro i m σ H ⟨rfl,hi,p⟩
 have q:=hl i σ H hi p
 by_cases hlt:i<xs.length
 ·refine .inr ⟨⟨xs,xs[i],q,by simp[hlt]⟩,Pv (i+1),fun σ' H' p'=>⟨xs.length - (i+1),by lia,rfl,hlt,p'⟩,fun x H' y=>?_⟩
  obtain ⟨e,y⟩:=y
  subst e
  exact hs i x σ _ (y xs q) p
 ·have e:i=xs.length:=by lia
  subst e
  exact .inl ⟨⟨xs,q,d9 _⟩,hd σ H p⟩
theorem dn {lo:Int}{n:Nat}(Pv:Nat->St->Hp->Prop) (h0:Pv 0 σ H)
  (hs:∀i σ H,i<n->Pv i σ H->g (.int (lo+i)) σ H fun σ2 H2=>tb { D with nx:=Pv (i+1),ct:=Pv (i+1),bk:=D.nx } σ2 H2) (hd:∀σ H,Pv n σ H->D.nx σ H):
  ∃W:Nat->Nat->St->Hp->Prop,(∃m,W 0 m σ H)/\∀i m σ H,W i m σ H ->
   ((Em lo n).stop i H/\D.nx σ H) ∨ ((Em lo n).go i H/\∃N:St->Hp->Prop,(∀σ' H',N σ' H'->∃m',m'<m/\W (i+1) m' σ' H')/\∀x H',(Em lo n).yld i H x H'->g x σ H' fun σ2 H2=>tb { D with nx:=N,ct:=N,bk:=D.nx } σ2 H2):=by
 refine ⟨fun i m σ H=>m=n - i/\i<=n/\Pv i σ H,⟨n,by simp,j5 _,h0⟩,?_⟩
 rintro i m σ H ⟨rfl,hi,p⟩
 by_cases hlt:i<n
 ·refine .inr ⟨hlt,Pv (i+1),fun σ' H' p'=>⟨n - (i+1),by lia,rfl,hlt,p'⟩,fun x H' y=>?_⟩
  obtain ⟨e,y⟩:=y
  subst e y
  exact hs i σ _ hlt p
 ·have e:i=n:=by lia
  subst e
  exact .inl ⟨d9 _,hd σ H p⟩
noncomputable abbrev R2:=V->V->Hp->VK->Prop
noncomputable def iA (X:Cx) (f:b8->b8->Sem b8) (r:R2):Prop :=
 ∀(pins:List (Addr × Obj)) (s:b9) (σ:St) (H:Hp) (x y:V) (v u:b8) (Q:VK),A9 X pins σ H s->J3 x v->J3 y u->r x y H Q ->
  i5 (n0 X.prog X.w) X.A (f v u) (EP X pins σ Q) X.xe s
noncomputable def Z0 (X:Cx) (f:b8) (r:List V->Hp->VK->Prop):Prop :=
 ∀(pins:List (Addr × Obj)) (s:b9) (σ:St) (H:Hp) (xs:List V) (us:List b8) (Q:VK),A9 X pins σ H s->J2 xs us->r xs H Q ->
  i5 (n0 X.prog X.w) X.A (call f us) (EP X pins σ Q) X.xe s
noncomputable def HK (r:R2) (ta tb:TE):TE:=fun σ H Q=>ta σ H fun x H1=>tb σ H1 fun y H2=>r x y H2 Q
noncomputable def rI (C:Int->Int->Prop) (g:Int->Int->V):R2:=fun x y H Q=>∃i j,x=.int i/\y=.int j/\C i j/\Q (g i j) H
noncomputable def Co (g:Int->Int->V):R2:=fun x y H Q=>∃i j,x=.int i/\y=.int j/\Q (g i j) H
section
variable {X:Cx}{a b c:Expr}{ta tb tc:TE}{pos:Pos}
variable {f:b8->b8->Sem b8}
theorem Eb (ha:PE X a ta) (hb:PE X b tb) {pins:List (Addr × Obj)}{s:b9}{σ:St}{H:Hp}{R:V->V->Hp->Prop} (I:A9 X pins σ H s)
  (h:ta σ H fun x H1=>tb σ H1 fun y H2=>R x y H2) {Q:b8->b9->Prop}
  (hf:∀v u s2 x y H2,A9 X pins σ H2 s2->J3 x v->J3 y u->R x y H2->i5 (n0 X.prog X.w) X.A (f v u) Q X.xe s2):
  i5 (n0 X.prog X.w) X.A (eval a X.env) (fun v s₁=>i5 (n0 X.prog X.w) X.A (eval b X.env) (fun u s₂=>i5 (n0 X.prog X.w) X.A (f v u) Q X.xe s₂) X.xe s₁) X.xe s:=by
 refine R4 (ha pins s σ H _ I h) fun v s1 ⟨x,H1,I1,r1,q1⟩=>?_
 refine R4 (hb pins s1 σ H1 _ I1 q1) fun u s2 ⟨y,H2,I2,r2,q2⟩=>?_
 exact hf v u s2 x y H2 I2 r1 r2 q2
theorem D9 {op:Operator}{r:R2} (ho:iA X (V9 op) r) (ha:PE X a ta) (hb:PE X b tb):PE X (.BinOp a op b pos) (HK r ta tb):=by
 intro pins s σ H Q I h
 exact wpAny_BinOp (Eb ha hb I h fun v u s2 x y H2 I2 rx ry q=>ho pins s2 σ H2 x y v u Q I2 rx ry q)
theorem EJ {C:Int->Int->Prop}{g:Int->Int->Int}
  (rule:∀(i j:Int) (t u:Tok) (s:b9) (Q:b8->b9->Prop) (E:b8->b9->Prop),C i j->Q (.int (g i j) s.toks) { s with toks:=s.toks+1 }->i5 (n0 X.prog X.w) X.A (f (.int i t) (.int j u)) Q E s):
  iA X f (rI C fun i j=>.int (g i j)):=by
 intro pins s σ H x y v u Q I rx ry h
 obtain ⟨i,j,rfl,rfl,hc,q⟩:=h
 obtain ⟨t,rfl⟩:=rx
 obtain ⟨t',rfl⟩:=ry
 exact rule i j t t' s _ _ hc ⟨.int (g i j),H,I.tok _,⟨_,rfl⟩,q⟩
theorem Gh {g:Int->Int->Int}
  (rule:∀(i j:Int) (t u:Tok) (s:b9) (Q:b8->b9->Prop) (E:b8->b9->Prop),Q (.int (g i j) s.toks) { s with toks:=s.toks+1 }->i5 (n0 X.prog X.w) X.A (f (.int i t) (.int j u)) Q E s):
  iA X f (Co fun i j=>.int (g i j)):=by
 intro pins s σ H x y v u Q I rx ry h
 obtain ⟨i,j,rfl,rfl,q⟩:=h
 obtain ⟨t,rfl⟩:=rx
 obtain ⟨t',rfl⟩:=ry
 exact rule i j t t' s _ _ ⟨.int (g i j),H,I.tok _,⟨_,rfl⟩,q⟩
theorem Bo {g:Int->Int->Bool}
  (rule:∀(i j:Int) (t u:Tok) (s:b9) (Q:b8->b9->Prop) (E:b8->b9->Prop),Q (.bool (g i j)) s->i5 (n0 X.prog X.w) X.A (f (.int i t) (.int j u)) Q E s):
  iA X f (Co fun i j=>.bl (g i j)):=by
 intro pins s σ H x y v u Q I rx ry h
 obtain ⟨i,j,rfl,rfl,q⟩:=h
 obtain ⟨t,rfl⟩:=rx
 obtain ⟨t',rfl⟩:=ry
 exact rule i j t t' s _ _ ⟨.bl (g i j),H,I,rfl,q⟩
noncomputable def CDiv (i j:Int):Prop:=0<j/\j<1073741824
noncomputable def GW (i j:Int):Prop:=0<=j/\j<=1000000/\i.natAbs<2 ^ 64
noncomputable def Er (i j:Int):Prop:=(-(2 ^ 64)<i/\i<2 ^ 64) ∨ (-(2 ^ 64)<j/\j<2 ^ 64)
theorem Er.ok {i j:Int} (h:Er i j):IntMulOk i j:=by
 rcases h with ⟨h1,h2⟩|⟨h1,h2⟩
 ·exact .of_left (intBits_le_64 h1 h2)
 ·exact .of_right (intBits_le_64 h1 h2)
theorem aR:iA X (V9 .Add) (Co fun i j=>.int (i+j)):=Gh fun _ _ _ _ _ _ _ q=>add_int q
theorem ur:iA X (V9 .Sub) (Co fun i j=>.int (i - j)):=Gh fun _ _ _ _ _ _ _ q=>sub_int q
theorem dS:iA X (V9 .Mult) (rI Er fun i j=>.int (i*j)):=EJ fun _ _ _ _ _ _ _ hc q=>mul_int q hc.ok
theorem kf:iA X (V9 .FloorDiv) (rI CDiv fun i j=>.int (i / j)):=EJ fun i j _ _ _ _ _ hc q=>by
 have h1:(0:Int)<j:=hc.1
 have h2:j<1073741824:=hc.2
 exact floordiv_int (by lia) (by rw[qK i (by lia)];exact q) (.inl (PyProof.noPylong_small (by lia)))
theorem cR:iA X (V9 .Mod) (rI (fun _ j=>0<j) fun i j=>.int (i % j)):=EJ fun i j _ _ _ _ _ hc q=>by
 have h1:(0:Int)<j:=hc
 exact mod_int' (by lia) (by rw[Int.fmod_eq_emod_of_nonneg i (by lia)];exact q)
theorem yZ:iA X (V9 .Pow) (rI GW fun i j=>.int (i ^ j.toNat)):=EJ fun _ _ _ _ _ _ _ hc q=>pow_int_small hc.1 hc.2.1 hc.2.2 q
end
noncomputable def FM:V->V->Bool
 | .non,.non=>true | .non,.int _=>true | .int _,.non=>true | .non,.bl _=>true | .bl _,.non=>true | .non,.str _=>true | .str _,.non=>true
 | .int _,.int _=>true | .bl _,.bl _=>true | .str _,.str _=>true | .byt _,.byt _=>true
 | .int _,.str _=>true | .str _,.int _=>true | .bl _,.str _=>true | .str _,.bl _=>true
 | _,_=>false
noncomputable def rEq:R2:=fun x y H Q=>FM x y=true/\Q (.bl (decide (x=y))) H
noncomputable def rNe:R2:=fun x y H Q=>FM x y=true/\Q (.bl (!decide (x=y))) H
theorem wm {i j:Int}:decide (V.int i=V.int j)=(i == j):=by
 rw[W9]
 simp
theorem zU {i j:Bool}:decide (V.bl i=V.bl j)=(i == j):=by
 rw[W9]
 simp
theorem wk {i j:Str}:decide (V.str i=V.str j)=(i == j):=by
 rw[W9]
 simp
theorem wq {i j:Array UInt8}:decide (V.byt i=V.byt j)=(i.toList == j.toList):=by
 rw[W9]
 cases i
 cases j
 simp
section
variable {X:Cx}{a b c:Expr}{ta tb tc:TE}{pos:Pos}
theorem J5 {pins:List (Addr × Obj)}{σ:St}{H:Hp}{s:b9}{Q:VK}{k k':Bool} (I:A9 X pins σ H s) (q:Q (.bl k) H) (e:k=k'):EP X pins σ Q (.bool k') s:=by
 subst e
 exact ⟨.bl k,H,I,rfl,q⟩
theorem fO:iA X (P5 .Eq) rEq:=by
 intro pins s σ H x y v u Q I rx ry h
 obtain ⟨hs,q⟩:=h
 cases x with
 | non =>
  cases rx
  cases y with
  | non=>cases ry;exact PySem.EqNone.eq_none_none (J5 I q (by simp))
  | bl j=>cases ry;exact PySem.EqNone.eq_none_bool (J5 I q (by simp))
  | int j=>obtain ⟨t',rfl⟩:=ry;exact PySem.EqNone.eq_none_int (J5 I q (by simp))
  | str j=>obtain ⟨t',rfl⟩:=ry;exact PySem.EqNone.eq_none_str (J5 I q (by simp))
  | _=>exact absurd (show false=true from hs) n9
 | bl i =>
  cases rx
  cases y with
  | non=>cases ry;exact PySem.EqNone.eq_bool_none (J5 I q (by simp))
  | bl j=>cases ry;exact eq_bool (J5 I q zU)
  | str j=>obtain ⟨t',rfl⟩:=ry;exact PySem.EqMixed.eq_bool_str (J5 I q (by simp))
  | _=>exact absurd (show false=true from hs) n9
 | int i =>
  obtain ⟨t,rfl⟩:=rx
  cases y with
  | non=>cases ry;exact PySem.EqNone.eq_int_none (J5 I q (by simp))
  | int j=>obtain ⟨t',rfl⟩:=ry;exact eq_int (J5 I q wm)
  | str j=>obtain ⟨t',rfl⟩:=ry;exact PySem.EqMixed.eq_int_str (J5 I q (by simp))
  | _=>exact absurd (show false=true from hs) n9
 | str i =>
  obtain ⟨t,rfl⟩:=rx
  cases y with
  | non=>cases ry;exact PySem.EqNone.eq_str_none (J5 I q (by simp))
  | bl j=>cases ry;exact PySem.EqMixed.eq_str_bool (J5 I q (by simp))
  | int j=>obtain ⟨t',rfl⟩:=ry;exact PySem.EqMixed.eq_str_int (J5 I q (by simp))
  | str j=>obtain ⟨t',rfl⟩:=ry;exact eq_str (J5 I q wk)
  | _=>exact absurd (show false=true from hs) n9
 | byt i =>
  obtain ⟨t,rfl⟩:=rx
  cases y with
  | byt j=>obtain ⟨t',rfl⟩:=ry;exact W.eq_bytes (J5 I q wq)
  | _=>exact absurd (show false=true from hs) n9
 | _=>cases y <;> exact absurd (show false=true from hs) n9
theorem zc:iA X (P5 .NotEq) rNe:=by
 intro pins s σ H x y v u Q I rx ry h
 obtain ⟨hs,q⟩:=h
 cases x with
 | non =>
  cases rx
  cases y with
  | non=>cases ry;exact PySem.EqNone.ne_none_none (J5 I q (by simp))
  | bl j=>cases ry;exact PySem.EqNone.ne_none_bool (J5 I q (by simp))
  | int j=>obtain ⟨t',rfl⟩:=ry;exact PySem.EqNone.ne_none_int (J5 I q (by simp))
  | str j=>obtain ⟨t',rfl⟩:=ry;exact PySem.EqNone.ne_none_str (J5 I q (by simp))
  | _=>exact absurd (show false=true from hs) n9
 | bl i =>
  cases rx
  cases y with
  | non=>cases ry;exact PySem.EqNone.ne_bool_none (J5 I q (by simp))
  | bl j=>cases ry;exact ne_bool (J5 I q (congrArg not zU))
  | str j=>obtain ⟨t',rfl⟩:=ry;exact PySem.EqMixed.ne_bool_str (J5 I q (by simp))
  | _=>exact absurd (show false=true from hs) n9
 | int i =>
  obtain ⟨t,rfl⟩:=rx
  cases y with
  | non=>cases ry;exact PySem.EqNone.ne_int_none (J5 I q (by simp))
  | int j=>obtain ⟨t',rfl⟩:=ry;exact ne_int (J5 I q (congrArg not wm))
  | str j=>obtain ⟨t',rfl⟩:=ry;exact PySem.EqMixed.ne_int_str (J5 I q (by simp))
  | _=>exact absurd (show false=true from hs) n9
 | str i =>
  obtain ⟨t,rfl⟩:=rx
  cases y with
  | non=>cases ry;exact PySem.EqNone.ne_str_none (J5 I q (by simp))
  | bl j=>cases ry;exact PySem.EqMixed.ne_str_bool (J5 I q (by simp))
  | int j=>obtain ⟨t',rfl⟩:=ry;exact PySem.EqMixed.ne_str_int (J5 I q (by simp))
  | str j=>obtain ⟨t',rfl⟩:=ry;exact ne_str (J5 I q (congrArg not wk))
  | _=>exact absurd (show false=true from hs) n9
 | byt i =>
  obtain ⟨t,rfl⟩:=rx
  cases y with
  | byt j=>obtain ⟨t',rfl⟩:=ry;exact W.ne_bytes (J5 I q (congrArg not wq))
  | _=>exact absurd (show false=true from hs) n9
 | _=>cases y <;> exact absurd (show false=true from hs) n9
theorem Gf:iA X (P5 .Lt) (Co fun i j=>.bl (decide (i<j))):=Bo fun _ _ _ _ _ _ _ q=>lt_int q
theorem vO:iA X (P5 .LtE) (Co fun i j=>.bl (decide (i<=j))):=Bo fun _ _ _ _ _ _ _ q=>le_int q
theorem rJ:iA X (P5 .Gt) (Co fun i j=>.bl (decide (j<i))):=Bo fun _ _ _ _ _ _ _ q=>gt_int q
theorem Gg:iA X (P5 .GtE) (Co fun i j=>.bl (decide (j<=i))):=Bo fun _ _ _ _ _ _ _ q=>ge_int q
variable {op:CM}
theorem N4 (b:Expr) (h:op≠.In:=by decide) (h2:op≠.NotIn:=by decide):aN op b=false:=by
 have e1:(op == CmpOp.In)=false:=by cases op <;> first|rfl|exact absurd rfl h
 have e2:(op == HI)=false:=by cases op <;> first|rfl|exact absurd rfl h2
 cases b <;> simp[aN,e1,e2]
theorem cL {r:R2} (ho:iA X (P5 op) r) (ha:PE X a ta) (hb:PE X b tb) (hm:aN op b=false):PE X (.Compare a [op] [b] pos) (HK r ta tb):=by
 intro pins s σ H Q I h
 exact wpAny_Compare1 (Eb ha hb I h fun v u s2 x y H2 I2 rx ry q=>ho pins s2 σ H2 x y v u Q I2 rx ry q) hm
noncomputable def Fw (t:TE):TT:=fun σ H Q=>t σ H fun x H'=>∃k,x=.bl k/\Q k H'
theorem P7 {op:CM}{r:R2} (ho:iA X (P5 op) r) (ha:PE X a ta) (hb:PE X b tb) (hm:aN op b=false):PT X (.Compare a [op] [b] pos) (Fw (HK r ta tb)):=by
 intro pins s σ H Q I h
 refine BX (R4 (ha pins s σ H _ I h) fun v s1 ⟨x,H1,I1,r1,q1⟩=>R4 (hb pins s1 σ H1 _ I1 q1) fun u s2 ⟨y,H2,I2,r2,q2⟩ =>
  R4 (ho pins s2 σ H2 x y v u _ I2 r1 r2 q2) fun c s3 ⟨z,H3,I3,r3,k,e,q3⟩=>?_) hm
 subst e
 cases r3
 exact P4 ⟨H3,I3,q3⟩
noncomputable def CY (r r':R2) (ta tb tc:TE):TE:=fun σ H Q=>ta σ H fun x H1=>tb σ H1 fun y H2=>r x y H2 fun z H3=>∃k,z=.bl k /\
 (if k=true then tc σ H3 fun w' H4=>r' y w' H4 Q else Q (.bl false) H3)
theorem rH {op':CM}{r r':R2} (ho:iA X (P5 op) r) (ho':iA X (P5 op') r') (ha:PE X a ta) (hb:PE X b tb) (hc:PE X c tc)
  (hm:lastMarks [op,op'] [b,c]=false:=by with_unfolding_all rfl):PE X (.Compare a [op,op'] [b,c] pos) (CY r r' ta tb tc):=by
 intro pins s σ H Q I h
 refine Compare_chain (R4 (ha pins s σ H _ I h) fun v s1 ⟨x,H1,I1,r1,q1⟩=>chain_link (R4 (hb pins s1 σ H1 _ I1 q1) fun u s2 ⟨y,H2,I2,r2,q2⟩ =>
  R4 (ho pins s2 σ H2 x y v u _ I2 r1 r2 q2) fun d s3 ⟨z,H3,I3,r3,k,e,q3⟩=>?_)) hm
 subst e
 cases r3
 refine P4 ?_
 cases k with
 | false=>exact ite_ff ⟨.bl false,H3,I3,rfl,q3⟩
 | true=>exact ite_tt (chain_last (R4 (hc pins s3 σ H3 _ I3 q3) fun w' s4 ⟨z',H4,I4,r4,q4⟩=>ho' pins s4 σ H4 y z' u w' Q I4 r2 r4 q4))
theorem pL:(i8:Nat)<2 ^ 63:=by rw[K3];decide
theorem ee {x:V}{us:List b8} (r:J2 [x] us):∃u,us=[u]/\J3 x u:=by
 cases r with
 | cons r1 r2=>cases r2;exact ⟨_,rfl,r1⟩
theorem Cj {x y:V}{us:List b8} (r:J2 [x,y] us):∃u w',us=[u,w']/\J3 x u/\J3 y w':=by
 cases r with
 | cons r1 r2 =>
  cases r2 with
  | cons r3 r4=>cases r4;exact ⟨_,_,rfl,r1,r3⟩
theorem sG:Z0 X (.builtin "abs") (fun xs H Q=>∃i,xs=[.int i]/\Q (.int (if i<0 then -i else i)) H):=by
 intro pins s σ H xs us Q I r h
 obtain ⟨i,rfl,q⟩:=h
 obtain ⟨u,rfl,t,rfl⟩:=ee r
 exact call_abs_int fun u tk=>⟨.int (if i<0 then -i else i),H,I.tok _,⟨_,rfl⟩,q⟩
theorem xF (hc:X.calm=true):Z0 X (.builtin "max") (fun xs H Q=>∃i j,xs=[.int i,.int j]/\Q (.int (if j > i then j else i)) H):=by
 intro pins s σ H xs us Q I r h
 obtain ⟨i,j,rfl,q⟩:=h
 obtain ⟨u,w',rfl,⟨t,rfl⟩,⟨t',rfl⟩⟩:=Cj r
 refine max_two_ints (I.ok.hd hc) fun h' tk k=>⟨_,H,I.kept k,?_,q⟩
 by_cases hj:j > i
 ·rw[if_pos hj,if_pos hj];exact ⟨_,rfl⟩
 ·rw[if_neg hj,if_neg hj];exact ⟨_,rfl⟩
theorem xE (hc:X.calm=true):Z0 X (.builtin "min") (fun xs H Q=>∃i j,xs=[.int i,.int j]/\Q (.int (if j<i then j else i)) H):=by
 intro pins s σ H xs us Q I r h
 obtain ⟨i,j,rfl,q⟩:=h
 obtain ⟨u,w',rfl,⟨t,rfl⟩,⟨t',rfl⟩⟩:=Cj r
 refine min_two_ints (I.ok.hd hc) fun h' tk k=>⟨_,H,I.kept k,?_,q⟩
 by_cases hj:j<i
 ·rw[if_pos hj,if_pos hj];exact ⟨_,rfl⟩
 ·rw[if_neg hj,if_neg hj];exact ⟨_,rfl⟩
theorem jv:Z0 X (.type "int") (fun xs H Q=>(∃i,xs=[.int i]/\Q (.int i) H) ∨ ∃k,xs=[.bl k]/\Q (.int (if k then 1 else 0)) H):=by
 intro pins s σ H xs us Q I r h
 rcases h with ⟨i,rfl,q⟩|⟨k,rfl,q⟩
 ·obtain ⟨u,rfl,t,rfl⟩:=ee r
  exact call_int_int ⟨.int i,H,I,⟨_,rfl⟩,q⟩
 ·obtain ⟨u,rfl,r1⟩:=ee r
  cases r1
  exact call_int_bool ⟨.int (if k then 1 else 0),H,I.tok _,⟨_,rfl⟩,q⟩
end
structure Ek (h:Heap) (x dx C:Addr) (mA:Str->Option b8):Prop where
 obj:h.get? x=some (Ff C dx)
 ns:h.Ns1 dx mA
 ne:dx≠x
theorem xq {dx:Addr}{mA:Str->Option b8} (n:h.Ns1 dx mA):∃od,h.get? dx=some od/\∀name,Ia name od=some (mA name):=by
 obtain ⟨o,es,ep,ho,hd,hk,_,hm⟩:=n
 refine ⟨o,ho,fun name=>?_⟩
 have e:=hm name
 unfold nsFind findBy at e
 rw[<- Array.find?_toList] at e
 unfold Ia
 rw[hd]
 dsimp only
 split
 ·rename_i y q
  rw[q] at e
  exact congrArg some e
 ·rename_i q
  rw[q] at e
  have a:es.toList.any (·.refKey)=false:=by
   rw[AG]
   intro y hy
   obtain ⟨z,t,hkey⟩:=hk y (Array.mem_toList_iff.mp hy)
   simp[DictEntry.refKey,hkey]
  have a':¬ es.toList.any (·.refKey)=true:=by rw[a];exact n9
  rw[if_neg a']
  exact congrArg some e
theorem Ek.look {x dx C:Addr}{mA:Str->Option b8} (I:Ek h x dx C mA):∃od,W.InstAt h x (Ff C dx) C (some od)/\∀name,Ia name od=some (mA name):=
 let ⟨od,ho,hl⟩:=xq I.ns
 ⟨od,⟨I.obj,rfl,rfl,ho⟩,hl⟩
section
variable {prog:f6}{w:j6}{A:r6}{E:b8->b9->Prop}{s:b9}{K:m6}{x dx C f:Addr}{mA:Str->Option b8}{name:Str}{v:b8}
end
theorem jy.some_of {v:V}{o:Option b8} (r:jy (some v) o):∃u,o=some u/\J3 v u:=by
 cases o with
 | none=>exact (show False from r).elim
 | some u=>exact ⟨u,rfl,r⟩
section
variable {P:f6}{w:j6}{H H':Hp}{h h':Heap}{a C dx:Addr}{fs fs':List (Str × V)}
theorem BD (hok:cW P w H h) (e:H a=some (.ins C dx fs)):∃mA,Ek h a dx C mA/\(∀f,jy (fs.lookup f) (mA f))/\Fj mA (fs.map (·.1))/\fs.length<=1000/\H dx=some (.own a):=by
 obtain ⟨d,z,ne,ob,mA,n,r,q⟩:=(show J8 P w H h a (.ins C dx fs) from hok a _ e)
 exact ⟨mA,⟨ob,n,ne⟩,r,q,z,d⟩
end
structure Cls (K:m6) (C:Addr):Prop where
 pg:W.plainGet K C Str.empty=true
 hd:W.hasDictIn K C=true
 po:W.plainOver K C=true
 sa:fB K (.ref C) "__setattr__"=some (some (.builtin "object.__setattr__"))
theorem Cls.get {C:Addr} (c:Cls K C) (f:Str):W.plainGet K C f=true:=c.pg
structure Con (K:m6) (C:Addr) (f:Str) (v:V) (u:b8):Prop where
 at_:fB K (.ref C) f=some (some u)
 rel:J3 v u
 get:Az K u "__get__"=some none
 cp:W.copiedNames.contains f=false
structure Meth (K:m6) (C:Addr) (m:Str) (f:Addr):Prop where
 at_:fB K (.ref C) m=some (some (.ref f))
 fn:W.isFn K (.ref f)=true
 kp:dB K (.ref f)=true
section
variable {X:Cx}{pins:List (Addr × Obj)}{σ:St}{H:Hp}{s:b9}{a C dx:Addr}{fs:List (Str × V)}{f:Str}{v:V}{A:r6}{E:b8->b9->Prop}
end
section
variable {X:Cx}{o e value:Expr}{f:Str}{pos pos' tpos:Pos}{ta tv:TE}
end
section
variable {X:Cx}{pins:List (Addr × Obj)}{σ:St}{H:Hp}{s:b9}{A:r6}{E:b8->b9->Prop}{Q:b8->b9->Prop}{c:b8}{b:Bool}
inductive jw (K:m6) (H:Hp):V->b8->Prop where
 | non:jw K H .non (.type "NoneType")
 | bl (x:Bool):jw K H (.bl x) (.type "bool")
 | int (i:Int):jw K H (.int i) (.type "int")
 | str (x:Str):jw K H (.str x) (.type "str")
 | flt (x:UInt64):jw K H (.flt x) (.type "float")
 | lst {a:Addr}{xs:List V} (e:H a=some (.lst xs)):jw K H (.ref a) (.type "list")
 | frz {a:Addr}{o:Obj}{xs:List V} (e:H a=some (.frz o (.lst xs))):jw K H (.ref a) (.type "list")
 | tup {a:Addr}{xs:List V} (e:H a=some (.tup xs)):jw K H (.ref a) (.type "tuple")
 | dK {a:Addr}{kvs:List (V3 × V)} (e:H a=some (.dK kvs)):jw K H (.ref a) (.type "dict")
 | dT {a:Addr}{kvs:List (List V3 × V)} (e:H a=some (.dT kvs)):jw K H (.ref a) (.type "dict")
 | ins {a C dx:Addr}{fs:List (Str × V)} (e:H a=some (.ins C dx fs)) (cl:Cls K C) (ha:fB K (.ref C) "__class__"=some (some (.builtin "object.__class__")))
   (hn:Az K (.builtin "object.__class__") "__get__"=some (some (.builtin "getset_descriptor.__get__"))) (htk:W.takesIn K (.builtin "object.__class__")=some true)
   (hm:W.mroIn K C (.type "object")=some true):jw K H (.ref a) (.ref C)
theorem xw {x:V}{u t:b8} (I:A9 X pins σ H s) (rx:J3 x u) (ty:jw X.K H x t) (e:iL X.K t c=some b) (h:∀tk,Q (.bool b) { s with toks:=tk }):
  i5 (n0 X.prog X.w) A (call (.builtin "isinstance") [u,c]) Q E s:=by
 cases ty with
 | non=>cases (show u=A5 from rx);exact ai W.kitx_none I.kIn V0 e (fun z=>nomatch z) h
 | bl y=>cases (show u=nV y from rx);exact ai W.kitx_bool I.kIn V0 e (fun z=>nomatch z) h
 | int i=>obtain ⟨t,q⟩:=(show ∃t,u=ky i t from rx);cases q;exact ai W.kitx_int I.kIn V0 e (fun z=>nomatch z) h
 | str y=>obtain ⟨t,q⟩:=(show ∃t,u=sW y t from rx);cases q;exact ai W.kitx_str I.kIn V0 e (fun z=>nomatch z) h
 | flt y=>obtain ⟨t,q⟩:=(show ∃t,u=Hz y t from rx);cases q;exact ai W.kitx_float I.kIn V0 e (fun z=>nomatch z) h
 | @lst a xs ea =>
  cases (show u=j3 a from rx)
  obtain ⟨_,_,n,_,h1⟩:=(show J8 X.prog X.w H s.heap a (.lst xs) from I.hok a _ ea)
  exact ai W.kitx_list I.kIn ⟨_,h1,rfl⟩ e (fun z=>nomatch z) h
 | @frz a ob xs ea =>
  cases (show u=j3 a from rx)
  obtain ⟨_,_,_,n,_,h1⟩:=(show J8 X.prog X.w H s.heap a (.frz ob (.lst xs)) from I.hok a _ ea)
  exact ai W.kitx_list I.kIn ⟨_,h1,rfl⟩ e (fun z=>nomatch z) h
 | @tup a xs ea =>
  cases (show u=j3 a from rx)
  obtain ⟨_,_,_,p⟩:=(show J8 X.prog X.w H s.heap a (.tup xs) from I.hok a _ ea)
  obtain ⟨o,h1,h2,_⟩:=p
  exact ai W.kitx_tuple I.kIn ⟨o,h1,h2⟩ e (fun z=>nomatch z) h
 | @dK a kvs ea =>
  cases (show u=j3 a from rx)
  obtain ⟨_,_,vs,_,p⟩:=(show J8 X.prog X.w H s.heap a (.dK kvs) from I.hok a _ ea)
  obtain ⟨o,es,ep,h1,h2,_⟩:=p
  exact ai W.kitx_dict I.kIn ⟨o,h1,h2.1⟩ e (fun z=>nomatch z) h
 | @dT a kvs ea =>
  cases (show u=j3 a from rx)
  obtain ⟨_,_,xs,_,o,es,ep,h1,h2,_⟩:=(show J8 X.prog X.w H s.heap a (.dT kvs) from I.hok a _ ea)
  exact ai W.kitx_dict I.kIn ⟨o,h1,h2.1⟩ e (fun z=>nomatch z) h
 | @ins a C dx fs ea cl ha hn htk hm =>
  cases (show u=j3 a from rx)
  obtain ⟨mA,O,_⟩:=BD I.hok ea
  obtain ⟨od,J,_⟩:=O.look
  exact ai (W.kitx_own (cl.get _) cl.hd ha hn htk hm) I.kIn J e (fun z=>nomatch z) h
end
structure cH (k:Nat) (A:r6):Prop where
 hd:A.handled=none
 dp:A.depth+3*k+5<recursionLimit
 un:A.units+16*k+200<R8
theorem cH.mono {j k:Nat}(r:cH k A) (h:j<=k):cH j A:=⟨r.hd,by have:=r.dp;lia,by have:=r.un;lia⟩
theorem cH.deeper {k:Nat}{A:r6} (r:cH (k+1) A) (env:Env):cH k (A.deeper env):=
 ⟨r.hd,by have:=r.dp;show A.depth+1+3*k+5<_;lia,by have:=r.un;show A.units+3+16*k+200<_;lia⟩
theorem cH.depth {k:Nat}{A:r6} (r:cH k A):A.depth<recursionLimit:=by have:=r.dp;lia
theorem cH.units {k:Nat}{A:r6} (r:cH k A):A.units+64<R8:=by have:=r.un;lia
noncomputable def CU:TA:=fun _ H Q=>Q [] H
noncomputable def qS (ta:TE) (tr:TA):TA:=fun σ H Q=>ta σ H fun x H1=>tr σ H1 fun xs H2=>Q (x::xs) H2
section
variable {X:Cx}{e:Expr}{es:List Expr}{te:TE}{t:TA}{pos:Pos}
theorem d8:PA X [] CU:=fun _ _ _ _ H Q I h=>jQ ⟨[],H,I,.nil,h⟩
theorem b6 (ha:PE X e te) (hr:PA X es t) (hs:B5 (e::es) X.env=(false,eval e X.env)::B5 es X.env:=by rfl):PA X (e::es) (qS te t):=by
 intro pos pins s σ H Q I h
 rw[hs]
 show i5 _ _ (spliced ((false,eval e X.env)::bN pos (B5 es X.env))) _ _ s
 refine au (R4 (ha pins s σ H _ I h) fun u s1 ⟨x,H1,I1,r1,q1⟩=>?_)
 exact R4 (hr pos pins s1 σ H1 _ I1 q1) fun us s2 ⟨xs,H2,I2,r2,q2⟩=>⟨x::xs,H2,I2,.cons r1 r2,q2⟩
noncomputable def Fv (t:TA):TE:=fun σ H Q=>t σ H fun xs H1=>xs.length<=i8/\∀p,H1 p=none->Q (.ref p) (v8 H1 p (.tup xs))
noncomputable def tLst (t:TA):TE:=fun σ H Q=>t σ H fun xs H1=>xs.length<=i8/\∀p,H1 p=none->Q (.ref p) (v8 H1 p (.lst xs))
theorem O5 {x1} (h:PA X es t):PE X (.Tuple es x1 pos) (Fv t):=by
 intro pins s σ H Q I hq
 refine wpAny_Tuple_spliced (R4 (h pos pins s σ H _ I hq) fun us s1 ⟨xs,H1,I1,r,z,q⟩=>⟨by rw[<- r.length];exact z,?_⟩)
 have hf:H1 s1.heap.objs.size=none:=I1.hok.fresh (d9 _)
 refine ⟨.ref s1.heap.objs.size,v8 H1 s1.heap.objs.size (.tup xs),I1.laid (t':=s1.toks) (fun b u e=>d6 _ e) (d9 _) ?_,rfl,q _ hf⟩
 exact ⟨z,us,r,⟨_,n5 _ rfl,rfl,_,rfl⟩⟩
theorem lu (h:PA X es t):PE X (.List es pos) (tLst t):=by
 intro pins s σ H Q I hq
 refine wpAny_List_spliced (R4 (h pos pins s σ H _ I hq) fun us s1 ⟨xs,H1,I1,r,z,q⟩=>⟨by rw[<- r.length];exact z,?_⟩)
 have hf:H1 s1.heap.objs.size=none:=I1.hok.fresh (d9 _)
 refine ⟨.ref s1.heap.objs.size,v8 H1 s1.heap.objs.size (.lst xs),I1.laid (t':=s1.toks) (fun b u e=>d6 _ e) (d9 _) ?_,rfl,q _ hf⟩
 exact ⟨z,us,0,r,n5 _ rfl⟩
end
noncomputable abbrev Sp:=List V->Hp->VK->XK->Prop
noncomputable abbrev tG:=List Env->Hp->b9->XK->b8->b9->Prop
structure BV (P:f6) (w:j6) (K:m6) (mg:Str->Option b8) (base:Heap) (A:r6) (outer:List Env) (s:b9) (H:Hp):Prop where
 frames:A.frames=some outer
 mod:Mod K mg base
 bs:∀b o,base.get? b=some o->s.heap.get? b=some o/\H b=none
 bsz:base.objs.size<=s.heap.objs.size
 funs:s.heap.FunFrames base outer
 frf:∀b∈pX outer,H b=none
 hok:cW P w H s.heap
 bare:fm s.gens
noncomputable def CE (outer:List Env) (P:f6) (w:j6) (H:Hp) (s:b9) (Q:VK) (u:b8) (s':b9):Prop :=
 ∃v H',s'.os=s.os/\fm s'.gens/\Un (pX outer) [] H H' s.heap s'.heap/\cW P w H' s'.heap/\J3 v u/\Q v H'
noncomputable def CR (CX:tG) (outer:List Env) (P:f6) (w:j6) (H:Hp) (s:b9) (Q:VK) (E:XK) (r:mj) (s':b9):Prop :=
 match r with
 | .ok (.ret u)=>CE outer P w H s Q u s'
 | .ok _=>False
 | .error e=>CX outer H s E e s'
structure L3 (P:f6) (w:j6) (K:m6) (mg:Str->Option b8) (base:Heap) (CX:tG) (k:Nat) (f:Addr) (fd:A7) (ps:List Str) (sp:Sp):Prop where
 len:∀vs H Q E,sp vs H Q E->vs.length=ps.length
 run:∀(A:r6) (outer:List Env) (s:b9) (H:Hp) (args:Args) (us:List b8) (vs:List V) (Q:VK) (E:XK),cH k A->BV P w K mg base A outer s H->og s fd args (ps.zip us)->J2 vs us->sp vs H Q E ->
  nQ (n0 P w) A (.call (.ref f) args) (CR CX outer P w H s Q E) s
theorem L3.mono {P:f6}{w:j6}{K:m6}{mg:Str->Option b8}{base:Heap}{CX:tG}{j k:Nat}{f:Addr}{fd:A7}{ps:List Str}{sp:Sp} (F:L3 P w K mg base CX j f fd ps sp) (h:j<=k):
  L3 P w K mg base CX k f fd ps sp:=⟨F.len,fun A outer s H args us vs Q E hr=>F.run A outer s H args us vs Q E (hr.mono h)⟩
section
variable {X:Cx}{pins:List (Addr × Obj)}{σ:St}{H:Hp}{s s':b9}
theorem A9.env0 (I:A9 X pins σ H s):BV X.prog X.w X.K X.mg X.base X.A X.stack s H :=
 ⟨I.ok.frames,I.ok.mod,I.bs,f9 I.ok.bsz I.sz,I.stack,I.stkFree,I.hok,I.bare⟩
theorem A9.after {Q:VK}{u:b8} (I:A9 X pins σ H s) (h:CE X.stack X.prog X.w H s Q u s'):EP X pins σ Q u s':=by
 obtain ⟨v,H',os,bare,un,hok,r,q⟩:=h
 obtain ⟨hh,g,d,t,os'⟩:=s'
 obtain rfl:os'=s.os:=os
 exact ⟨v,H',I.call (h':=hh) (g':=g) (d':=d) (t':=t) (ch:=[]) un hok bare (fun b z=>absurd z (by simp)),r,q⟩
end
noncomputable def yr (sp:Sp) (dvs:List V) (E:XK) (t:TA):TE:=fun σ H Q=>t σ H fun vs H1=>sp (vs++dvs) H1 Q E
noncomputable def iB (K:m6) (fd:A7) (ps:List Str) (ds:List b8):Prop :=
 ∀(s:b9) (us:List b8),K.In s.heap->(us++ds).length=ps.length->og s fd ⟨us,[]⟩ (ps.zip (us++ds))
variable {ps:List Str}
theorem iB.all {fd:A7}(h:∀us:List b8,us.length=ps.length->bindArgs fd ⟨us,[]⟩=pure (ps.zip us)):iB K fd ps []:=fun s us _ hl=>by
 rw[W5] at hl ⊢
 exact .of_eq (h us hl)
noncomputable def jz (CX:tG) (X:Cx) (E:XK):Prop:=∀(pins:List (Addr × Obj)) (σ:St) (H:Hp) (s:b9) (e:b8) (s':b9),A9 X pins σ H s->CX X.stack H s E e s'->X.xe e s'
section
variable {X:Cx}{CX:tG}{k:Nat}{f C:Addr}{fd:A7}{ps:List Str}{sp:Sp}{dvs:List V}{ds:List b8}{E:XK}{x m:Str}{p pos apos:Pos}{e o:Expr}{es:List Expr}{ta:TE}{t:TA}
theorem Dv {pins:List (Addr × Obj)}{σ:St}{H:Hp}{s:b9}{Q:VK}{us:List b8}{vs:List V} (F:L3 X.prog X.w X.K X.mg X.base CX k f fd ps sp) (hr:cH k X.A) (hb:iB X.K fd ps ds) (hd:J2 dvs ds) (hx:jz CX X E)
  (I:A9 X pins σ H s) (r:J2 vs us) (h:sp (vs++dvs) H Q E):i5 (n0 X.prog X.w) X.A (call (.ref f) us) (EP X pins σ Q) X.xe s:=by
 have r2:J2 (vs++dvs) (us++ds):=r.append hd
 have hl:(us++ds).length=ps.length:=by rw[<- r2.length];exact F.len _ _ _ _ h
 refine wpAny_call (nP (F.run X.A X.stack s H ⟨us,[]⟩ (us++ds) (vs++dvs) Q E hr I.env0 (hb s us I.kIn hl) r2 h) fun r s' hq=>?_)
 cases r with
 | error e=>exact hx pins σ H s e s' I hq
 | ok fl =>
  cases fl with
  | ret u=>exact I.after hq
  | next=>exact U8 hq
  | brk=>exact U8 hq
  | cont=>exact U8 hq
theorem vM (F:L3 X.prog X.w X.K X.mg X.base CX k f fd ps sp) (hr:cH k X.A) (hg:Gl X x) (hm:X.mg x=some (.ref f)) (hk:dB X.K (.ref f)=true) (hb:iB X.K fd ps ds) (hd:J2 dvs ds) (hx:jz CX X E)
  (ha:PA X (e::es) t) (hdb:(x == ("__debug__":Str))=false:=by decide) (he:B5 (e::es) X.env=(false,eval e X.env)::B5 es X.env:=by rfl) (hpl:(bN pos (B5 es X.env)).any (·.1)=false:=by rfl):
  PE X (.Call (.Name x p) (e::es) [] pos) (yr sp dvs E t):=by
 intro pins s σ H Q I h
 refine md (pR I hg hm ?_ hdb)
 refine W.callWith_K (h₀:=X.base) I.ok.mod.kin hk (R4 (ha pos pins s σ H _ I h) fun us s1 ⟨vs,H1,I1,r,q⟩=>⟨I1.kIn,?_⟩) he hpl
 exact Dv F hr hb hd hx I1 r q
structure Mk (K:m6) (C f:Addr):Prop where
 makes:W.makesIn K C=true
 init:fB K (.ref C) "__init__"=some (some (.ref f))
 fn:W.isFn K (.ref f)=true
 kp:dB K (.ref C)=true
end
section
variable {X:Cx}{CX:tG}{k:Nat}{f C:Addr}{fd:A7}{ps ks:List Str}{sp:Sp}{E:XK}{x m:Str}{p pos apos kpos:Pos}{e o:Expr}{es:List Expr}{kws:List vi}{te ta:TE}{t tk:TA}{nm:Option Str}
structure KBinds (K:m6) (fd:A7) (ps ks:List Str) (g:List b8->List b8->List b8) (gV:List V->List V->List V):Prop where
 to:∀(s:b9) (us ws:List b8),K.In s.heap->(g us ws).length=ps.length->og s fd ⟨us,ks.zip ws⟩ (ps.zip (g us ws))
 rel:∀{vs:List V}{us:List b8}{zs:List V}{ws:List b8},J2 vs us->J2 zs ws->J2 (gV vs zs) (g us ws)
variable {g:List b8->List b8->List b8}{gV:List V->List V->List V}
end
structure A2 (N P:List Str) (sc:Q2):Prop where
 kind:sc.kind=.function
 co:sc.isCoroutine=false
 gen:sc.isGenerator=false
 nd:N.Nodup
 pre:N.take P.length=P
 par:∀x∈P,sc.names.lookup x=some .local ∨ sc.names.lookup x=some .cell
 nofree:∀y∈sc.names,y.2≠.free
theorem nF {kindOf:Str->Option W2}{x:Str}:∀{binds:List (Str × b8)}{m:Str->Option b8},(∀v,(x,v) ∉ binds)->Af kindOf binds m x=m x
 | [],_,_=>rfl
 | (n,v)::r,m,h=>by
  unfold Af
  rw[nF fun w hw=>h w (i3 _ hw)]
  split
  ·have:x≠n:=by rintro rfl;exact h v f7
   simp[this]
  ·rfl
theorem nH {kindOf:Str->Option W2}{x:Str}:∀{binds:List (Str × b8)}{m:Str->Option b8},(∀v,(x,v) ∉ binds)->Ag kindOf binds m x=m x
 | [],_,_=>rfl
 | (n,v)::r,m,h=>by
  unfold Ag
  rw[nH fun w hw=>h w (i3 _ hw)]
  split
  ·rfl
  ·have:x≠n:=by rintro rfl;exact h v f7
   simp[this]
theorem nG {kindOf:Str->Option W2}{x:Str}{v:b8}:∀{P:List Str}{vs:List b8}{i:Nat}{m:Str->Option b8},P.Nodup->P[i]?=some x->vs[i]?=some v->kindOf x=some .local ->
  Af kindOf (P.zip vs) m x=some v
 | [],_,_,_,_,h,_,_=>by simp at h
 | _::_,[],_,_,_,_,h,_=>by simp at h
 | p::P,w::vs,0,m,nd,h1,h2,hk=>by
  simp at h1 h2;subst h1;subst h2
  show Af kindOf ((p,w)::P.zip vs) m p=_
  unfold Af
  rw[nF fun v hv=>(List.nodup_cons.mp nd).1 (fC hv).1,if_pos hk]
  simp
 | p::P,w::vs,i+1,m,nd,h1,h2,hk=>by
  show Af kindOf ((p,w)::P.zip vs) m x=_
  unfold Af
  exact nG (i:=i) (List.nodup_cons.mp nd).2 (by simpa using h1) (by simpa using h2) hk
theorem nI {kindOf:Str->Option W2}{x:Str}{v:b8}:∀{P:List Str}{vs:List b8}{i:Nat}{m:Str->Option b8},P.Nodup->P[i]?=some x->vs[i]?=some v->kindOf x≠some .local ->
  Ag kindOf (P.zip vs) m x=some v
 | [],_,_,_,_,h,_,_=>by simp at h
 | _::_,[],_,_,_,_,h,_=>by simp at h
 | p::P,w::vs,0,m,nd,h1,h2,hk=>by
  simp at h1 h2;subst h1;subst h2
  show Ag kindOf ((p,w)::P.zip vs) m p=_
  unfold Ag
  rw[nH fun v hv=>(List.nodup_cons.mp nd).1 (fC hv).1,if_neg hk]
  simp
 | p::P,w::vs,i+1,m,nd,h1,h2,hk=>by
  show Ag kindOf ((p,w)::P.zip vs) m x=_
  unfold Ag
  exact nI (i:=i) (List.nodup_cons.mp nd).2 (by simpa using h1) (by simpa using h2) hk
noncomputable def start (N:List Str) (vs:List V):St:=vs.map some++E4 (N.length - vs.length) none
noncomputable def dW (CX:tG) (P:f6) (w:j6) (K:m6) (mg:Str->Option b8) (base:Heap) (N:List Str) (qual:Str) (scope:Q2) (f:Addr) (cd:b8) (A:r6) (outer:List Env) (s:b9) (H:Hp) (E:XK):Cx where
 prog:=P
 w:=w
 K:=K
 mg:=mg
 base:=base
 A:=A.deeper (V8 qual scope s.heap.objs.size f cd)
 N:=N
 s₀:=s
 H₀:=H
 env:=V8 qual scope s.heap.objs.size f cd
 outer:=outer
 stack:=V8 qual scope s.heap.objs.size f cd::outer
 ex:=[]
 calm:=true
 fn:=fun _=>true
 pn:=[]
 xe:=fun e s'=>i5 (n0 P w) (A.deeper (V8 qual scope s.heap.objs.size f cd)) (Ht (V8 qual scope s.heap.objs.size f cd) e) (fun _ s''=>CX outer H s E e s'') (fun e' s''=>CX outer H s E e' s'') s'
theorem iu {sc:Q2}{n:Nat}{x:Str} (h:sc.names.lookup x=some .cell):∃c,(L4 n sc.names []).lookup x=some c:=by
 have q:=nU sc.names n [] (.inl h)
 exact Option.isSome_iff_exists.mp q
theorem nC {CX:tG}{mg:Str->Option b8}{base:Heap}{N:List Str}{qual:Str}{scope:Q2}{f:Addr}{cd:b8}{outer:List Env}{s1:b9}{E:XK}{us:List b8}{vs:List V}
  (S:A2 N ps scope) (hd:A.handled=none) (e0:BV P w K mg base A outer s H) (hl:vs.length=ps.length) (r:J2 vs us)
  (x:InCallC s s.heap.objs.size (Af (V8 qual scope s.heap.objs.size f cd).kindOf (ps.zip us) fun _=>none) (L4 (s.heap.objs.size+1) scope.names []) (Ag (V8 qual scope s.heap.objs.size f cd).kindOf (ps.zip us) fun _=>none) s1):
  A9 (dW CX P w K mg base N qual scope f cd A outer s H E) [] (start N vs) H s1:=by
 have hpl:ps.length<=N.length:=by have:=congrArg gG S.pre;rw[m8] at this;lia
 obtain ⟨h1,tk,rfl,hk⟩:=x.done
 have noA:∀b:Addr,b ∉ (dW CX P w K mg base N qual scope f cd A outer s H E).ex:=fun b z=>absurd (show b∈([]:List Addr) from z) (by simp)
 refine ⟨⟨e0.mod,S.kind,rfl,rfl,d9 _,fun y z c h1 h2=>?_,fun y hy=>?_,fun y c _ h=>?_,fun _=>hd,Around.frames_deeper e0.frames,.inr ⟨rfl,rfl⟩,fun b z=>absurd z (noA b),e0.bs,e0.bsz,fun b _ _=>noA b,fun b z=>absurd z (noA b),e0.funs,e0.frf⟩,
  rfl,e0.bare,Un.kept hk,⟨_,x.toInCall.ns,fun i y v h1 h2 h3=>?_⟩,fun y c h=>⟨_,x.cell y c h⟩,e0.hok.fresh (d9 _),fun y c h=>?_,fun p hp=>absurd (show p∈([]:List (Addr × Obj)) from hp) (by simp),e0.hok.kept hk,?_⟩
 ·exact name_of_addr x.apart (Z6 h1) (Z6 h2)
 ·have hy:scope.names.lookup y=some .cell ∨ scope.names.lookup y=some .free:=hy
  rcases hy with hy|hy
  ·exact iu hy
  ·exact absurd rfl (S.nofree _ (Z6 hy))
 ·exact O3 (x.above y c (Z6 h))
 ·have hi:i<vs.length:=by
   unfold start at h2
   by_cases hi:i<vs.length
   ·exact hi
   ·rw[List.getElem?_append_right (by simpa using hi)] at h2
    rw[List.getElem?_replicate] at h2
    split at h2 <;> cases h2
  have ha:vs[i]?=some v:=by
   unfold start at h2
   rw[List.getElem?_append_left (by simpa using hi),m7] at h2
   cases e:vs[i]? with
   | none=>rw[e] at h2;cases h2
   | some a=>rw[e] at h2;cases h2;rfl
  obtain ⟨u,hu,rv⟩:=r.get ha
  have hp:ps[i]?=some y:=by
   rw[<- S.pre,List.getElem?_take_of_lt (by lia)];exact h1
  have ndP:ps.Nodup:=by rw[<- S.pre];exact S.nd.sublist (AE _ _)
  refine ⟨u,rv,?_⟩
  rcases S.par y (t7 hp) with k|k
  ·exact .inl ⟨k,nG ndP hp hu k⟩
  ·obtain ⟨c,e⟩:=iu (n:=s.heap.objs.size+1) k
   refine .inr ⟨.inl k,c,e,?_⟩
   have q:=x.cell y c e
   rw[nI ndP hp hu (by show scope.names.lookup y≠_;rw[k];decide)] at q
   exact q
 ·exact e0.hok.fresh (O3 (x.above y c (Z6 h)))
 ·unfold start
  show _=N.length
  rw[n8,b7,fI]
  lia
theorem Cs {CX:tG}{mg:Str->Option b8}{base:Heap}{k:Nat}{f:Addr}{name qual:Str}{params:Im}{body:List Stmt}{scope:Q2}{dV kV doc pm cdv ct oc:b8}{an od:Option Addr}
  {osl:Array (Option b8)}{N:List Str}{sp:Sp} (lk:K.lookup f=some ⟨oc,od,.func (fU name qual params body scope dV kV doc pm an cdv ct),osl⟩) (hcd:mi K cdv qual=true) (S:A2 N ps scope)
  (len:∀vs H Q E,sp vs H Q E->vs.length=ps.length)
  (hbody:∀(A:r6) (outer:List Env) (s:b9) (H:Hp) (vs:List V) (Q:VK) (E:XK),cH k (A.deeper (V8 qual scope s.heap.objs.size f cdv))->sp vs H Q E ->
   ∃t,qv (dW CX P w K mg base N qual scope f cdv A outer s H E) body t/\t { nx:=fun _ H'=>Q .non H',rt:=Q } (start N vs) H):
  L3 P w K mg base CX (k+1) f (fU name qual params body scope dV kV doc pm an cdv ct) ps sp:=by
 refine ⟨len,fun A outer s H args us vs Q E hr e0 hb r hsp=>?_⟩
 have hl:=len _ _ _ _ hsp
 have KX:K.In s.heap:=e0.mod.kin.keeps fun b o e=>(e0.bs b o e).1
 have lim:s.heap.NoLimit:=e0.mod.nolimit.keeps fun b o e=>(e0.bs b o e).1
 have hkind:∀y∈ps.zip us,scope.names.lookup y.1=some .local ∨ (scope.names.lookup y.1=some .cell/\((L4 (s.heap.objs.size+1) scope.names []).lookup y.1).isSome=true):=fun ⟨n,v⟩ hy=>by
  rcases S.par n (fC hy).1 with q|q
  ·exact .inl q
  ·exact .inr ⟨q,nU _ _ _ (.inl q)⟩
 refine Ca hr.depth (KX _ _ lk) rfl S.co S.gen rfl (W.codeRec_of KX hcd) (hb _ _ _ _ ?_)
 refine wG S.kind hkind fun env he s1 x=>?_
 subst he
 refine ⟨lim.keeps x.toInCall.keep,codeAny_func ?_⟩
 obtain ⟨t,ht,hq⟩:=hbody A outer s H vs Q E (hr.deeper _) hsp
 have I:A9 (dW CX P w K mg base N qual scope f cdv A outer s H E) [] (start N vs) H s1:=nC S hr.hd e0 hl r x
 refine F9 (ht [] s1 (start N vs) H _ I hq) (fun fl s' hs=>?_) fun e s' hs=>hs
 have fin:∀{σ':St}{H':Hp}{v:V}{u:b8},A9 (dW CX P w K mg base N qual scope f cdv A outer s H E) [] σ' H' s'->J3 v u->Q v H'->CE outer P w H s Q u s' :=
  fun {σ' H' v u} J rv q=>⟨v,H',J.os,J.bare,J.base,J.hok,rv,q⟩
 cases fl with
 | ret u =>
  obtain ⟨v,σ',H',J,rv,q⟩:=hs
  exact fin J rv q
 | next =>
  obtain ⟨σ',H',J,q⟩:=hs
  exact fin (v:=V.non) (u:=A5) J rfl q
 | brk =>
  obtain ⟨_,_,_,q⟩:=hs
  exact U8 q
 | cont =>
  obtain ⟨_,_,_,q⟩:=hs
  exact U8 q
section
variable {X:Cx}{x:Str}{p pos:Pos}{e:Expr}{es:List Expr}{t:TA}{id T:String}{r:List V->Hp->VK->Prop}
noncomputable def tCB (r:List V->Hp->VK->Prop) (t:TA):TE:=fun σ H Q=>t σ H fun vs H1=>r vs H1 Q
theorem A0 (hc:Z0 X (.builtin id) r) (hg:Gl X x) (hm:X.mg x=none) (hv:T7 x=some (.builtin id)) (ha:PA X (e::es) t) (hn:x≠"__name__":=by decide) (hdb:(x == ("__debug__":Str))=false:=by decide)
  (he:B5 (e::es) X.env=(false,eval e X.env)::B5 es X.env:=by rfl) (hpl:(bN pos (B5 es X.env)).any (·.1)=false:=by rfl):PE X (.Call (.Name x p) (e::es) [] pos) (tCB r t):=by
 intro pins s σ H Q I h
 refine md (jo I hg hm hv ?_ hn hdb)
 exact PyProof.Rows.callWith_builtin1 (R4 (ha pos pins s σ H _ I h) fun us s1 ⟨vs,H1,I1,r1,q1⟩=>hc pins s1 σ H1 vs us Q I1 r1 q1) he hpl
theorem J4 (hc:Z0 X (.type T) r) (hg:Gl X x) (hm:X.mg x=none) (hv:T7 x=some (.type T)) (ha:PA X (e::es) t) (hn:x≠"__name__":=by decide) (hdb:(x == ("__debug__":Str))=false:=by decide)
  (he:B5 (e::es) X.env=(false,eval e X.env)::B5 es X.env:=by rfl) (hpl:(bN pos (B5 es X.env)).any (·.1)=false:=by rfl):PE X (.Call (.Name x p) (e::es) [] pos) (tCB r t):=by
 intro pins s σ H Q I h
 refine md (jo I hg hm hv ?_ hn hdb)
 exact U6 (R4 (ha pos pins s σ H _ I h) fun us s1 ⟨vs,H1,I1,r1,q1⟩=>hc pins s1 σ H1 vs us Q I1 r1 q1) he hpl
end
end L2
namespace HT
open PySem PyProof.Rows
noncomputable def E7:List Int->List Int->Bool
 | [],[]=>false
 | [],_::_=>true
 | _::_,[]=>false
 | x::xs,y::ys=>if x=y then E7 xs ys else decide (x<y)
theorem P3 (x y:Int) (xs ys:List Int):E7 (x::xs) (y::ys)=if x=y then E7 xs ys else decide (x<y):=rfl
theorem mC:E7 [] []=false:=rfl
theorem cy (y:Int) (ys:List Int):E7 [] (y::ys)=true:=rfl
theorem aC (x:Int) (xs:List Int):E7 (x::xs) []=false:=rfl
theorem zP (A:r6) (s:b9) (a:Int) (t:Tok) (c:Int) (u:Tok):∃e,ya A s (.int a t) (.int c u) e/\(e=true ↔ a=c):=
 ⟨(a == c),bX a t c u,by simp⟩
theorem yF (A:r6) (s:b9) (a:Int) (t:Tok) (c:Int) (u:Tok) (prog:f6) (w:j6) (E:b8->b9->Prop) (Q:b8->b9->Prop) (h:Q (.bool (decide (a<c))) s):
  i5 (n0 prog w) A (richCompare .Lt (.int a t) (.int c u)) Q E s :=
 (PyProof.Rows.lt_int h:i5 (n0 prog w) A (P5 .Lt (.int a t) (.int c u)) Q E s)
section
open PySem.SeqAt
open PySem.AutoSeq1 (wpAny_loadPart')
open PySem.MeetsSeq PySem.MeetsSeq2 PySem.MeetsSeq3
theorem mv (l b:Addr) (items items2:Array b8) (n n2:Nat) (dd dd2:Option Addr) (sl sl2:Array (Option b8)) (ns ms:List Int) (hi:T8 items.toList ns) (hj:T8 items2.toList ms):
  HC (Z3.«tuple.__lt__» ⟨[.ref l,.ref b],[]⟩)
   (fun _ R s=>s.heap.get? l=some { cls:=.type "tuple",dict:=dd,data:=.seq items n,slots:=sl }/\s.heap.get? b=some { cls:=.type "tuple",dict:=dd2,data:=.seq items2 n2,slots:=sl2 } /\
    R (.ok (.ret (.bool (E7 ns ms)))) s):=
 .of_wp fun prog w A R s h=>by
  obtain ⟨hp,g,d,tk,os⟩:=s;obtain ⟨hl,hb,h⟩:=h
  have f2:=AutoSeq1.sub_tuple_tuple
  have z1:items.size=ns.length:=by rw[<- hi.length];simp
  have z2:items2.size=ms.length:=by rw[<- hj.length];simp
  wp_walk using iC hl,iC hb,HS _ (fun cu b s'=>b.1=none/\s'=⟨hp,g,d,tk,os⟩/\∃(vs ws:List b8) (ns' ms':List Int),cu=vs.zip ws /\
   T8 vs ns'/\T8 ws ms'/\ns'.length+items2.size=ms'.length+items.size/\R (.ok (.ret (.bool (E7 ns' ms')))) ⟨hp,g,d,tk,os⟩) _
  case turn =>
   rintro ⟨y,x⟩ cu b s' ⟨hb',rfl,vs,ws,ns',ms',hz,hvi,hwi,hlen,hR⟩
   cases hvi with
   | nil=>rw[AD] at hz;cases hz
   | cons a t hvi' =>
    cases hwi with
    | nil=>rw[List.zip_nil_right] at hz;cases hz
    | cons c u hwi' =>
     rw[aH] at hz
     injection hz with hyx hrest
     injection hyx with hy hx
     subst hy hx
     rw[P3] at hR
     simp only[p4] at hlen
     obtain ⟨e,he,hiff⟩:=zP A.in1 ⟨hp,g,d,tk,os⟩ a t c u
     refine b5 (he prog w _ _ ?_)
     cases e with
     | true =>
      rw[if_pos (hiff.mp rfl)] at hR
      wp_walk
      exact ⟨rfl,rfl,_,_,_,_,hrest,hvi',hwi',by lia,hR⟩
     | false =>
      rw[if_neg (fun q=>absurd (hiff.mpr q) n9)] at hR
      have hri:=yF A.in1 ⟨hp,g,d,tk,os⟩ a t c u prog w
      wp_walk using hri
      exact ⟨_,rfl,by simpa using hR⟩
  case fin =>
   rintro ⟨b1,b2⟩ s' ⟨hb',rfl,vs,ws,ns',ms',hz,hvi,hwi,hlen,hR⟩
   simp only at hb'
   subst hb'
   have hv:E7 ns' ms'=decide (items.size<items2.size):=by
    cases hvi with
    | nil =>
     cases hwi with
     | nil =>
      simp only[M4] at hlen
      rw[mC]
      exact (decide_eq_false (by lia)).symm
     | cons c u hw =>
      simp only[M4,p4] at hlen
      rw[cy]
      exact (decide_eq_true (by lia)).symm
    | cons a t hv =>
     cases hwi with
     | nil =>
      simp only[M4,p4] at hlen
      rw[aC]
      exact (decide_eq_false (by lia)).symm
     | cons c u hw =>
      rw[aH] at hz
      cases hz
   rw[hv] at hR
   wp_walk
   exact ⟨_,rfl,by simpa [Builtin.Tuple.tupleCompareSizes] using hR⟩
  case h =>
   exact ⟨rfl,rfl,items.toList,items2.toList,ns,ms,rfl,hi,hj,by lia,h⟩
end
section
variable {prog:f6}{w:j6}{A:r6}{E:b8->b9->Prop}{s:b9}
variable {Q:b8->b9->Prop}
theorem uH {l b:Addr}{items items2:Array b8}{ns ms:List Int}(hl:wO s.heap l items) (hb:wO s.heap b items2) (hi:T8 items.toList ns) (hj:T8 items2.toList ms)
  (hu:A.units<R8) (h:Q (.bool (E7 ns ms)) s):i5 (n0 prog w) A (P5 .Lt (.ref l) (.ref b)) Q E s:=by
 obtain ⟨⟨cls,dd,data,sl⟩,ho,hc,n,hd⟩:=id hl
 obtain ⟨⟨cls2,dd2,data2,sl2⟩,ho2,hc2,n2,hd2⟩:=id hb
 simp only at hc hd hc2 hd2
 subst hc hd hc2 hd2
 exact richCompare_meets_room (op:=.Lt) ⟨_,ho,rfl⟩ ⟨_,ho2,rfl⟩ PySem.F.slot_tuple_lt PySem.F.entry_tuple_lt (PySem.F.args_tuple_lt_2 _ _) (mv l b items items2 n n2 dd dd2 sl sl2 ns ms hi hj)
  ⟨ho,ho2,show nV (E7 ns ms)≠wJ/\Q (.bool (E7 ns ms)) s from ⟨(fun x=>nomatch x),h⟩⟩ hu
theorem BL {t b:Addr}{vs ws:List b8}(ht:wO s.heap t vs.toArray) (hb:wO s.heap b ws.toArray) (hv:vs≠[])
  (h1:ws=[]->Q (.ref t) s) (h2:ws≠[]->Q (.ref s.heap.objs.size) { s with heap:=s.heap.push { cls:=.type "tuple",data:=.seq (vs++ws).toArray } })
  (hsz:vs.length+ws.length<=i8):i5 (n0 prog w) A (V9 .Add (.ref t) (.ref b)) Q E s:=by
 obtain ⟨⟨cls,dd,data,sl⟩,ho,hc,n,hd⟩:=id ht
 obtain ⟨⟨cls2,dd2,data2,sl2⟩,ho2,hc2,n2,hd2⟩:=id hb
 simp only at hc hd hc2 hd2
 subst hc hd hc2 hd2
 have e:vs.toArray++ws.toArray=(vs++ws).toArray:=by simp
 by_cases hw:ws=[]
 ·exact Ax ⟨_,ho,rfl⟩ ⟨_,ho2,rfl⟩ qJ xW ei dD (cY _ _)
   (tuple_addW1 t b vs.toArray ws.toArray n n2 dd dd2 sl sl2 (by simpa using hv) (by simp[hw])) ⟨ho,ho2,h1 hw⟩
 ·refine Ax ⟨_,ho,rfl⟩ ⟨_,ho2,rfl⟩ qJ xW ei dD (cY _ _)
   (tuple_addW2 t b vs.toArray ws.toArray n n2 dd dd2 sl sl2 (by simpa using hv) (by simpa using hw) (by rw[j0,j0];exact hsz)) ⟨ho,ho2,?_⟩
  rw[e]
  exact h2 hw
noncomputable def aY (n d:Nat):Option Int->Nat
 | none=>d
 | some v=>if v<0 then (v+(n:Int)).toNat else min v.toNat n
theorem rm (n d:Nat):aY n d none=d:=rfl
theorem vB (n d k:Nat):aY n d (some (k:Int))=min k n:=by
 show (if (k:Int)<0 then ((k:Int)+(n:Int)).toNat else min (k:Int).toNat n)=min k n
 rw[if_neg (by lia),S8]
theorem Du (n d:Nat) (hd:d<=n) (o:Option Int):aY n d o<=n:=by
 cases o with
 | none=>exact hd
 | some v =>
  show (if v<0 then (v+(n:Int)).toNat else min v.toNat n)<=n
  by_cases hv:v<0
  ·rw[if_pos hv];lia
  ·rw[if_neg hv];exact Nat.min_le_right _ _
theorem wA (v:Int) (n d:Nat):(if v<0 then max (v+(n:Int)) 0 else min v (n:Int))=((aY n d (some v):Nat):Int):=by
 show (if v<0 then max (v+(n:Int)) 0 else min v (n:Int))=(((if v<0 then (v+(n:Int)).toNat else min v.toNat n):Nat):Int)
 by_cases hv:v<0
 ·simp only[if_pos hv];lia
 ·simp only[if_neg hv];lia
theorem va (lo hi:Option Int) (n:Nat):bP lo hi 1 (n:Int)=(((aY n 0 lo:Nat):Int),((aY n n hi:Nat):Int)):=by
 have h1:¬ ((1:Int)<0):=by lia
 unfold bP
 simp only[h1,if_false]
 refine xJ ?_ ?_
 ·cases lo with
  | none=>rfl
  | some v=>exact wA v n 0
 ·cases hi with
  | none=>rfl
  | some v=>exact wA v n n
theorem uh (i j:Nat):W8 (i:Int) (j:Int) 1=j - i:=by
 unfold W8
 have h1:(1:Int) > 0:=by lia
 simp only[h1,if_true,Int.ediv_one]
 split <;> lia
theorem kS {v:b8}{o:Option Int}{Q:Option Int->b9->Prop} (p:jP v o) (h:Q o s):i5 (n0 prog w) A (Builtin.Slice.slicePartIndex v) Q E s:=by
 cases p with
 | none=>exact slicePart_none h
 | int i t=>exact slicePart_int h
theorem df {sl:Addr}{vl vu:b8}{lo hi:Option Int}{n:Nat}{Q:Int × Int × Nat->b9->Prop} (hs:s.heap.IsSliceOf sl vl vu .none) (pl:jP vl lo) (pu:jP vu hi)
  (h:Q (((aY n 0 lo:Nat):Int),1,aY n n hi - aY n 0 lo) s):i5 (n0 prog w) A (iP (.ref sl) (pure (n:Int))) Q E s:=by
 obtain ⟨os,hos,hcs,hds⟩:=id hs
 unfold iP Builtin.Slice.sliceFields
 refine b5 (b5 (y4 hos hds (x:=vl) rfl (b5 (y4 hos hds (x:=vu) rfl (b5 (y4 hos hds (x:=.none) rfl (d5 ?_)))))))
 refine b5 (slicePart_none ?_)
 show i5 _ _ (if ((1:Int) == 0)=true then _ else _) _ _ s
 rw[if_neg (by decide)]
 refine b5 (kS pl (b5 (kS pu (b5 (d5 ?_)))))
 show i5 _ _ (match bP lo hi 1 (n:Int) with | (lo,hi)=>pure (lo,(1:Int),W8 lo hi 1)) _ _ s
 rw[va lo hi n]
 show i5 _ _ (pure (((aY n 0 lo:Nat):Int),(1:Int),W8 ((aY n 0 lo:Nat):Int) ((aY n n hi:Nat):Int) 1)) _ _ s
 rw[uh]
 exact d5 h
theorem yS (xs:Array b8) (i k:Nat):((G5 k).filterMap fun (m:Nat)=>xs[((i:Int)+(m:Int)*1).toNat]?).toArray=((xs.toList.drop i).take k).toArray:=by
 have e:(fun (m:Nat)=>xs[((i:Int)+(m:Int)*1).toNat]?)=fun m=>xs[i+m]?:=by
  funext m
  have:((i:Int)+(m:Int)*1).toNat=i+m:=by lia
  rw[this]
 rw[e]
 have:=pick_run xs i k
 rw[List.filterMap_map] at this
 have e2:((fun x=>xs[x]?) ∘ fun x=>i+x)=fun m=>xs[i+m]?:=rfl
 rw[e2] at this
 rw[this]
theorem ip {t sl:Addr}{items:Array b8}{vl vu:b8}{lo hi:Option Int}(ht:wO s.heap t items) (hs:s.heap.IsSliceOf sl vl vu .none) (pl:jP vl lo) (pu:jP vu hi)
  (hw:¬ (aY items.size 0 lo=0/\aY items.size items.size hi=items.size))
  (h:Q (.ref s.heap.objs.size) { s with heap:=s.heap.push { cls:=.type "tuple",data:=.seq ((items.toList.drop (aY items.size 0 lo)).take (aY items.size items.size hi - aY items.size 0 lo)).toArray } })
  (hsz:items.size<=i8):i5 (n0 prog w) A (fk (.ref t) (.ref sl)) Q E s:=by
 have htake:sizeOk (.seq ((items.toList.drop (aY items.size 0 lo)).take (aY items.size items.size hi - aY items.size 0 lo)).toArray):=by
  show ((items.toList.drop (aY items.size 0 lo)).take (aY items.size items.size hi - aY items.size 0 lo)).toArray.size<=i8
  rw[j0,m8,A6,A8]
  lia
 have hj:aY items.size items.size hi<=items.size:=Du _ _ (d9 _) hi
 obtain ⟨os,hos,hcs,hds⟩:=id hs
 have hTs:s.TypeIs (.ref sl) "slice":=⟨os,hos,hcs⟩
 unfold fk
 try with_reducible refine M7 ?_
 first|refine b5 (d5 ?_)|skip
 refine b5 (GY ht.typeIs (by decide) ?_)
 refine b5 (A4 (name:=O1 "__getitem__") ht.typeIs Q8
  (y6 Q8 ht.typeIs Eu ?_ (Fb _ _)))
 show i5 _ _ (bE (.ref t) >>= _) _ _ s
 refine b5 (tupleItemsOf_ ht ?_)
 refine b5 (Ap hTs ?_)
 rw[if_pos (by decide)]
 refine b5 (df hs pl pu ?_)
 have hno:¬ ((((aY items.size 0 lo:Nat):Int) == 0&&(1:Int) == 1&&(aY items.size items.size hi - aY items.size 0 lo) == items.size)=true):=by
  intro q
  rw[u7,u7] at q
  have q1:((aY items.size 0 lo:Nat):Int)=0:=eq_of_beq q.1.1
  have q2:aY items.size items.size hi - aY items.size 0 lo=items.size:=eq_of_beq q.2
  exact hw ⟨by lia,by lia⟩
 show i5 _ _ (if (((aY items.size 0 lo:Nat):Int) == 0&&(1:Int) == 1&&(aY items.size items.size hi - aY items.size 0 lo) == items.size)=true then _ else _) _ _ s
 rw[if_neg hno,yS]
 first
  | exact b5 (m:=Y0 _) (A1 (d5 ⟨_,rfl,d5 h⟩) htake)
  | exact b5 (m:=Y0 _) (A1 (b5 (d5 (d5 ⟨_,rfl,d5 h⟩))) htake)
  | exact b5 (b5 (m:=Y0 _) (A1 (d5 (d5 ⟨_,rfl,d5 h⟩)) htake))
  | exact b5 (b5 (m:=Y0 _) (A1 (d5 ⟨_,rfl,d5 h⟩) htake))
end
end HT
namespace L2
open PySem PySem.Spec PyProof.Rows
noncomputable abbrev TO:=St->Hp->(Option Int->Hp->Prop)->Prop
noncomputable def PO (X:Cx) (e:Option Expr) (t:TO):Prop :=
 ∀(pins:List (Addr × Obj)) (s:b9) (σ:St) (H:Hp) (Q:Option Int->Hp->Prop),A9 X pins σ H s->t σ H Q ->
  i5 (n0 X.prog X.w) X.A (evalPart e X.env) (fun u s'=>∃o H',A9 X pins σ H' s'/\jP u o/\Q o H') X.xe s
noncomputable def AQ:TO:=fun _ H Q=>Q none H
noncomputable def Fx (t:TE):TO:=fun σ H Q=>t σ H fun x H1=>∃i,x=.int i/\Q (some i) H1
theorem uP {ns:List Int}:∀{us:List b8},J2 (ns.map V.int) us->T8 us ns:=by
 induction ns with
 | nil=>intro us r;rw[vg] at r;cases r;exact .nil
 | cons n ns ih =>
  intro us r
  rw[j8] at r
  cases r with
  | cons r1 r2 =>
   obtain ⟨t,e⟩:=r1
   subst e
   exact .cons n t (ih r2)
section
variable {X:Cx}{e:Expr}{te:TE}{lo hi:Option Expr}{tl th:TO}{pos p2:Pos}
theorem vJ:PO X none AQ:=by
 intro pins s σ H Q I h
 rw[evalPart_none]
 exact d5 ⟨none,H,I,.none,h⟩
theorem vI (h:PE X e te):PO X (some e) (Fx te):=by
 intro pins s σ H Q I hw
 rw[evalPart_some]
 refine R4 (h pins s σ H _ I hw) fun u s1 ⟨x,H1,I1,r1,q1⟩=>?_
 obtain ⟨i,rfl,q⟩:=q1
 obtain ⟨t,rfl⟩:=r1
 exact ⟨some i,H1,I1,.int i t,q⟩
noncomputable def HM (X:Cx) (r:V->Option Int->Option Int->Hp->VK->Prop):Prop :=
 ∀(pins:List (Addr × Obj)) (s:b9) (σ:St) (H:Hp) (x:V) (v vl vu:b8) (lo hi:Option Int) (sl:Addr) (Q:VK),A9 X pins σ H s->J3 x v->s.heap.IsSliceOf sl vl vu .none->jP vl lo->jP vu hi->r x lo hi H Q ->
  ∃T id,EU (.type T) "__getitem__"=pure (some (.builtin id))/\s.TypeIs v T/\i5 (n0 X.prog X.w) X.A (fk v (.ref sl)) (EP X pins σ Q) X.xe s
noncomputable def tSl (r:V->Option Int->Option Int->Hp->VK->Prop) (te:TE) (tl th:TO):TE:=fun σ H Q=>te σ H fun x H1=>tl σ H1 fun l H2=>th σ H2 fun u H3=>r x l u H3 Q
theorem rE {r:V->Option Int->Option Int->Hp->VK->Prop} (hr:HM X r) (he:PE X e te) (hl:PO X lo tl) (hu:PO X hi th):PE X (.Subscript e (.Slice lo hi none p2) pos) (tSl r te tl th):=by
 intro pins s σ H Q I h
 refine Fh (R4 (he pins s σ H _ I h) fun v s1 ⟨x,H1,I1,r1,q1⟩=>?_)
 refine wpAny_Slice (R4 (hl pins s1 σ H1 _ I1 q1) fun vl s2 ⟨l,H2,I2,pl,q2⟩=>R4 (hu pins s2 σ H2 _ I2 q2) fun vu s3 ⟨u,H3,I3,pu,q3⟩=>?_)
 rw[evalPart_none]
 refine d5 ?_
 have I4:A9 X pins σ H3 { s3 with heap:=s3.heap.push { cls:=.type "slice",data:=.fields #[vl,vu,.none] } }:=I3.kept (t':=s3.toks) fun b ob q=>d6 _ q
 obtain ⟨T,id,hT,ht,hg⟩:=hr pins { s3 with heap:=s3.heap.push { cls:=.type "slice",data:=.fields #[vl,vu,.none] } } σ H3 x v vl vu l u s3.heap.objs.size Q I4 r1 (Heap.IsSliceOf.new ..) pl pu q3
 show i5 (n0 X.prog X.w) X.A (xV e (.Slice lo hi none p2) v (.ref s3.heap.objs.size)) (EP X pins σ Q) X.xe { s3 with heap:=s3.heap.push { cls:=.type "slice",data:=.fields #[vl,vu,.none] } }
 exact tail_any (ops:=[.ref s3.heap.objs.size,v]) ht hT hg (by with_unfolding_all rfl)
noncomputable def jt (xs:List V) (lo hi:Option Int):List V:=(xs.drop (HT.aY xs.length 0 lo)).take (HT.aY xs.length xs.length hi - HT.aY xs.length 0 lo)
theorem su (xs:List V) (lo hi:Option Int):(jt xs lo hi).length<=xs.length:=by
 unfold jt
 rw[m8,A6]
 lia
noncomputable def rSlT (K:m6):V->Option Int->Option Int->Hp->VK->Prop:=fun x lo hi H Q=>∃a xs,x=.ref a/\bV K H a xs /\
 ¬ (HT.aY xs.length 0 lo=0/\HT.aY xs.length xs.length hi=xs.length)/\∀p,H p=none->Q (.ref p) (v8 H p (.tup (jt xs lo hi)))
theorem Dd:HM X (rSlT X.K):=by
 intro pins s σ H x v vl vu lo hi sl Q I rx hs pl pu h
 obtain ⟨a,xs,rfl,hx,hw,q⟩:=h
 cases rx
 obtain ⟨its,r,ht,hz⟩:=I.tuple hx
 have hlen:its.toArray.size=xs.length:=by rw[j0];exact r.length.symm
 refine ⟨"tuple",_,PyProof.Rows.slot_tuple_getitem.lookup,ht.typeIs,?_⟩
 refine HT.ip ht hs pl pu (by rw[hlen];exact hw) ?_ (by rw[hlen];exact hz)
 rw[hlen]
 refine ⟨.ref s.heap.objs.size,_,I.laid (t':=s.toks) (o:=.tup (jt xs lo hi)) (fun b ob q=>d6 _ q) (d9 _) ?_,rfl,q _ (I.hok.fresh (d9 _))⟩
 exact ⟨f9 (su xs lo hi) hz,_,(r.drop (HT.aY xs.length 0 lo)).take (HT.aY xs.length xs.length hi - HT.aY xs.length 0 lo),kF _ _⟩
noncomputable def FZ (K:m6):R2:=fun x y H Q=>∃a b xs ys,x=.ref a/\y=.ref b/\bV K H a xs/\bV K H b ys/\xs≠[]/\xs.length+ys.length<=i8 /\
 (ys=[]->Q (.ref a) H)/\(ys≠[]->∀p,H p=none->Q (.ref p) (v8 H p (.tup (xs++ys))))
theorem J2.nil_iff {xs:List V}{us:List b8} (r:J2 xs us):us=[] ↔ xs=[]:=by
 cases r with
 | nil=>simp
 | cons _ _=>simp
theorem Bm:iA X (V9 .Add) (FZ X.K):=by
 intro pins s σ H x y v u Q I rx ry h
 obtain ⟨a,b,xs,ys,rfl,rfl,ha,hb,hx,hz,q1,q2⟩:=h
 cases rx
 cases ry
 obtain ⟨its,r1,p1,_⟩:=I.tuple ha
 obtain ⟨its2,r2,p2,_⟩:=I.tuple hb
 refine HT.BL p1 p2 (fun z=>hx (r1.nil_iff.mp z)) (fun z=>⟨.ref a,H,I,rfl,q1 (r2.nil_iff.mp z)⟩) (fun z=>?_) (by rw[<- r1.length,<- r2.length];exact hz)
 refine ⟨.ref s.heap.objs.size,_,I.laid (t':=s.toks) (o:=.tup (xs++ys)) (fun b ob q=>d6 _ q) (d9 _) ?_,rfl,q2 (fun w=>z (r2.nil_iff.mpr w)) _ (I.hok.fresh (d9 _))⟩
 exact ⟨by rw[n8];exact hz,_,r1.append r2,kF _ _⟩
end
noncomputable def BB (n:Nat) (i:Int):Option Nat:=if 0<=i then (if i<n then some i.toNat else none) else if -(n:Int)<=i then some (i+n).toNat else none
noncomputable def An {α:Type} (xs:List α) (i:Int):Option α:=(BB xs.length i).bind fun j=>xs[j]?
theorem vZ {n:Nat}{i:Int}{j:Nat} (h:BB n i=some j):seqIndex? i n=some j/\j<n/\-(n:Int)<=i/\i<n:=by
 unfold BB at h
 by_cases h0:0<=i
 ·rw[if_pos h0] at h
  by_cases h1:i<n
  ·rw[if_pos h1] at h
   have e:i.toNat=j:=E2 h
   exact ⟨by rw[CB h0 h1,e],by lia,by lia,h1⟩
  ·rw[if_neg h1] at h;cases h
 ·rw[if_neg h0] at h
  by_cases h1:-(n:Int)<=i
  ·rw[if_pos h1] at h
   have e:(i+n).toNat=j:=E2 h
   exact ⟨by rw[Au (by lia) h1,e],by lia,h1,by lia⟩
  ·rw[if_neg h1] at h;cases h
theorem wD {α:Type}{xs:List α}{i:Int}{v:α} (h:An xs i=some v):∃j,seqIndex? i xs.length=some j/\xs[j]?=some v/\j<xs.length/\-(xs.length:Int)<=i/\i<xs.length:=by
 unfold An at h
 cases e:BB xs.length i with
 | none=>rw[e] at h;cases h
 | some j =>
  rw[e] at h
  obtain ⟨h1,h2,h3,h4⟩:=vZ e
  exact ⟨j,h1,h,h2,h3,h4⟩
theorem C6 {α:Type}{xs:List α}{j:Nat}{v:α} (h:xs[j]?=some v):An xs (j:Int)=some v:=by
 have hj:j<xs.length:=(List.getElem?_eq_some_iff.mp h).1
 have e:BB xs.length (j:Int)=some j:=by
  unfold BB
  rw[if_pos (by lia),if_pos (by lia)];simp
 unfold An;rw[e];exact h
noncomputable def BQ (b:Expr):Prop:=∀o i,sU b false o i=operate [o,i] (fk o i)
noncomputable def GS (X:Cx) (r:R2):Prop :=
 ∀(value slice:Expr) (pins:List (Addr × Obj)) (s:b9) (σ:St) (H:Hp) (x y:V) (v u:b8) (Q:VK),A9 X pins σ H s->J3 x v->J3 y u->r x y H Q ->
  sU slice false v u=operate [v,u] (fk v u)->i5 (n0 X.prog X.w) X.A (xV value slice v u) (EP X pins σ Q) X.xe s
noncomputable def MtR (X:Cx) (id:String) (r:V->List V->Hp->VK->Prop):Prop :=
 ∀(pins:List (Addr × Obj)) (s:b9) (σ:St) (H:Hp) (x:V) (xs:List V) (v:b8) (us:List b8) (Q:VK),A9 X pins σ H s->J3 x v->J2 xs us->r x xs H Q ->
  i5 (n0 X.prog X.w) X.A (call (.builtin id) (v::us)) (EP X pins σ Q) X.xe s
section
variable {X:Cx}{a b:Expr}{ta tb:TE}{pos:Pos}
theorem G9 {r:R2} (hr:GS X r) (ha:PE X a ta) (hb:PE X b tb) (hs:BQ b):PE X (.Subscript a b pos) (HK r ta tb):=by
 intro pins s σ H Q I h
 exact Fh (Eb ha hb I h fun v u s2 x y H2 I2 rx ry q=>hr a b pins s2 σ H2 x y v u Q I2 rx ry q (hs _ _))
noncomputable def FX (K:m6):R2:=fun x y H Q=>∃p xs i v,x=.ref p/\y=.int i/\eA K H p xs/\An xs i=some v/\Q v H
noncomputable def FW (K:m6):R2:=fun x y H Q=>∃p xs i v,x=.ref p/\y=.int i/\bV K H p xs/\An xs i=some v/\Q v H
theorem Z5:GS X (FX X.K):=by
 intro value slice pins s σ H x y v u Q I rx ry h hs
 obtain ⟨p,xs,i,z,rfl,rfl,hq,he,q⟩:=h
 cases rx
 obtain ⟨t,rfl⟩:=ry
 obtain ⟨its,r,pl,hz⟩:=I.list hq
 obtain ⟨j,h1,h2,h3,h4,h5⟩:=wD he
 obtain ⟨w,ew,rw'⟩:=r.get h2
 have hl:=r.length
 have hn:=pL
 have fin:EP X pins σ Q w s:=⟨z,H,I,rw',q⟩
 by_cases h0:0<=i
 ·have hj:i.toNat=j:=by
   rw[CB h0 h5] at h1
   exact E2 h1
  exact item_listR pl.isList h0 (by lia) (by rw[hj];simpa using ew) fin hs
 ·have hj:(i+(its.toArray.size:Int)).toNat=j:=by
   rw[Au (by lia) h4] at h1
   rw[j0,<- hl]
   exact E2 h1
  exact Ar (x:=w) pl.isList.typeIs slot_list_getitem.lookup
   (wpAny_getItem_list_neg (Q:=fun r s'=>r=w/\EP X pins σ Q r s') pl.isList (by lia) (by rw[j0] <;> lia) (by lia) (by rw[hj];simpa using ew) ⟨rfl,fin⟩) hs
theorem L5:GS X (FW X.K):=by
 intro value slice pins s σ H x y v u Q I rx ry h hs
 obtain ⟨p,xs,i,z,rfl,rfl,hq,he,q⟩:=h
 cases rx
 obtain ⟨t,rfl⟩:=ry
 obtain ⟨its,r,pl,hz⟩:=I.tuple hq
 obtain ⟨j,h1,h2,h3,h4,h5⟩:=wD he
 obtain ⟨w,ew,rw'⟩:=r.get h2
 have hl:=r.length
 have hn:=pL
 have fin:EP X pins σ Q w s:=⟨z,H,I,rw',q⟩
 exact Ar (x:=w) pl.typeIs slot_tuple_getitem.lookup
  (getItem_tuple (j:=j) (Q:=fun r s'=>r=w/\EP X pins σ Q r s') pl (by lia) (by lia) (by rw[j0,<- hl];exact h1) (by simpa using ew) ⟨rfl,fin⟩) hs
theorem uF (its:List b8) (n j:Nat) (u:b8):Q9 (·.setIfInBounds j u) { cls:=.type "list",data:=.seq its.toArray n }={ cls:=.type "list",data:=.seq (its.set j u).toArray n }:=by
 simp[Q9]
theorem A9.lst {pins:List (Addr × Obj)}{σ:St}{H:Hp}{s:b9}{p:Addr}{xs:List V} (I:A9 X pins σ H s) (h:H p=some (.lst xs)):
  ∃(its:List b8) (n:Nat),J2 xs its/\s.heap.get? p=some { cls:=.type "list",data:=.seq its.toArray n }/\xs.length<=i8:=by
 obtain ⟨z,its,n,r,e⟩:=I.hok p _ h
 exact ⟨its,n,r,e,z⟩
theorem A9.lstUpd {pins:List (Addr × Obj)}{σ:St}{H:Hp}{s:b9}{p:Addr}{xs ys:List V}{its its':List b8}{n n':Nat}{f:Obj->Obj} (I:A9 X pins σ H s) (h:H p=some (.lst xs))
  (ho:s.heap.get? p=some { cls:=.type "list",data:=.seq its.toArray n }) (hf:f { cls:=.type "list",data:=.seq its.toArray n }={ cls:=.type "list",data:=.seq its'.toArray n' }) (r:J2 ys its') (hz:ys.length<=i8) (t:Nat):
  A9 X pins σ (v8 H p (.lst ys)) { s with heap:=s.heap.update p f,toks:=t }:=by
 have e:(s.heap.update p f).get? p=some { cls:=.type "list",data:=.seq its'.toArray n' }:=by
  rw[X7 f ho (by rw[hf] <;> rfl),hf]
 refine I.write (x:=p) (e:=p) (by rw[h];trivial) (.inl rfl) (fun b u hb q=>(P6 _ _ (G8 hb)).trans q) ⟨_,e⟩ ?_
 exact ⟨hz,its',n',r,e⟩
noncomputable def FT:V->V->V->Hp->(Hp->Prop)->Prop:=fun o i v H Q=>∃p xs k j,o=.ref p/\i=.int k/\H p=some (.lst xs)/\BB xs.length k=some j/\Q (v8 H p (.lst (xs.set j v)))
theorem gX:GL X FT:=by
 intro pins s σ H o i v ov iv u Q I ro ri rv h
 obtain ⟨p,xs,k,j,rfl,rfl,hp,hj,q⟩:=h
 cases ro
 obtain ⟨t,rfl⟩:=ri
 obtain ⟨its,n,r,ho,hz⟩:=I.lst hp
 obtain ⟨h1,h2,h3,h4⟩:=vZ hj
 have hl:=r.length
 have hn:=pL
 have I':A9 X pins σ (v8 H p (.lst (xs.set j v))) { s with heap:=s.heap.update p (Q9 (·.setIfInBounds j u)) } :=
  I.lstUpd hp ho (uF its n j u) (r.set rv j) (by rw[cC];exact hz) s.toks
 by_cases h0:0<=k
 ·have hk:k.toNat=j:=by
   rw[CB h0 h4] at h1
   exact E2 h1
  exact W.ki_setAt ho h0 (by lia) (by rw[j0,<- hl];exact h4) (by rw[hk];exact ⟨_,I',q⟩)
 ·have hk:(k+(its.toArray.size:Int)).toNat=j:=by
   rw[Au (by lia) h3] at h1
   rw[j0,<- hl]
   exact E2 h1
  exact W.ki_setBack ho (by lia) (by rw[j0,<- hl];exact h3) (by lia) (by rw[hk];exact ⟨_,I',q⟩)
theorem J6:Z0 X (.builtin "len") (fun xs H Q=>∃p ys,xs=[.ref p]/\(eA X.K H p ys ∨ bV X.K H p ys)/\Q (.int ys.length) H):=by
 intro pins s σ H xs us Q I r h
 obtain ⟨p,ys,rfl,hq,q⟩:=h
 obtain ⟨u,rfl,rx⟩:=ee r
 cases rx
 have hn:=pL
 rcases hq with hq|hq
 ·obtain ⟨its,r',pl,hz⟩:=I.list hq
  have hlen:=r'.length
  exact Calls.call_len_list pl.isList (by simp only[j0] <;> lia) ⟨.int ys.length,H,I.tok _,⟨s.toks+1,by rw[j0,hlen]⟩,q⟩
 ·obtain ⟨its,r',pl,hz⟩:=I.tuple hq
  have hlen:=r'.length
  exact len_tuple pl (by simp only[j0] <;> lia) ⟨.int ys.length,H,I.tok _,⟨s.toks+1,by rw[j0,hlen]⟩,q⟩
theorem ql:Z0 X (.type "list") (fun xs H Q=>∃p ys,xs=[.ref p]/\(eA X.K H p ys ∨ bV X.K H p ys)/\∀l,H l=none->Q (.ref l) (v8 H l (.lst ys))):=by
 intro pins s σ H xs us Q I r h
 obtain ⟨p,ys,rfl,hq,q⟩:=h
 obtain ⟨u,rfl,rx⟩:=ee r
 cases rx
 have fin:∀(its:List b8),J2 ys its->ys.length<=i8->∀(h':Heap) (c':Nat),(∀b o',s.heap.get? b=some o'->h'.get? b=some o') ->
   h'.get? s.heap.objs.size=some { cls:=.type "list",dict:=none,data:=.seq its.toArray c',slots:=#[] }->EP X pins σ Q (.ref s.heap.objs.size) { s with heap:=h' }:=fun its r' hz h' c' kp e =>
  ⟨.ref s.heap.objs.size,_,I.laid (t':=s.toks) kp (d9 _) (show J8 X.prog X.w _ h' _ (.lst ys) from ⟨hz,its,c',r',e⟩),rfl,q _ (I.hok.fresh (d9 _))⟩
 rcases hq with hq|hq
 ·obtain ⟨its,r',pl,hz⟩:=I.list hq
  have hlen:=r'.length
  obtain ⟨o,ho,hc,n,hd⟩:=pl.isList
  exact call_list_seq p (.inl rfl) ho hc hd (fun h' c' kp e=>fin its r' hz h' c' kp e) (by simp only[j0] <;> lia)
 ·obtain ⟨its,r',pl,hz⟩:=I.tuple hq
  have hlen:=r'.length
  obtain ⟨o,ho,hc,n,hd⟩:=pl
  exact call_list_seq p (.inr rfl) ho hc hd (fun h' c' kp e=>fin its r' hz h' c' kp e) (by simp only[j0] <;> lia)
theorem F8:Z0 X (.type "tuple") (fun xs H Q=>∃p ys,xs=[.ref p]/\((eA X.K H p ys/\∀l,H l=none->Q (.ref l) (v8 H l (.tup ys))) ∨ (bV X.K H p ys/\Q (.ref p) H))):=by
 intro pins s σ H xs us Q I r h
 obtain ⟨p,ys,rfl,h⟩:=h
 obtain ⟨u,rfl,rx⟩:=ee r
 cases rx
 rcases h with ⟨hq,q⟩|⟨hq,q⟩
 ·obtain ⟨its,r',pl,hz⟩:=I.list hq
  have hlen:=r'.length
  refine call_tuple_list pl.isList (fun h' kp=>?_) (by simp only[j0] <;> lia)
  have I1:A9 X pins σ H { s with heap:=h' }:=I.kept (t':=s.toks) kp
  have I2:A9 X pins σ (v8 H h'.objs.size (.tup ys)) { s with heap:=h'.push { cls:=.type "tuple",data:=.seq its.toArray } } :=
   I1.laid (t':=s.toks) (fun b o e=>d6 _ e) (d9 _) (show J8 X.prog X.w _ _ _ (.tup ys) from ⟨hz,its,r',kF _ _⟩)
  exact ⟨.ref h'.objs.size,_,I2,rfl,q _ (I1.hok.fresh (d9 _))⟩
 ·obtain ⟨its,r',pl,hz⟩:=I.tuple hq
  exact call_tuple_same pl ⟨.ref p,H,I,rfl,q⟩
variable {o e:Expr}{es:List Expr}{to:TE}{t:TA}{name:Str}{apos cpos:Pos}{T id:String}{r:V->List V->Hp->VK->Prop}
end
section
variable {X:Cx}{pins:List (Addr × Obj)}{σ:St}{H:Hp}{s:b9}{l b:Addr}{xs ys zs:List V}
end
section
variable {X:Cx}
end
section
variable {prog:f6}{w:j6}{A:r6}{E:b8->b9->Prop}{s:b9}
set_option maxRecDepth 100000 in
end
section
variable {X:Cx}
end
end L2
namespace Att
open PySem PySem.W PySem.Calls PyProof.Rows
theorem jU {P:Params}{h:Heap}:∀(ns:List Int) (vs:List b8),WellAll P h vs (ns.map WData.int)->T8 vs ns:=by
 intro ns
 induction ns with
 | nil =>
  intro vs w
  rw[vg] at w
  cases w
  exact .nil
 | cons n ns ih =>
  intro vs w
  rw[j8] at w
  cases w with
  | cons a b =>
   cases a
   exact .cons _ _ (ih _ b)
theorem wX {l:OpenLaw}{n:Nat} (hn:l.most=some n) {P:Params}{h:Heap}{args:List WData}{vals:List b8}
  (hpre:l.row.toRowW.claim.pre args=true) (hwl:WellAll P h vals args):
  ∃a vs ns,vals=[j3 a]/\args=[WData.list (ns.map WData.int)]/\h.get? a=some { cls:=.type "list",data:=.seq vs.toArray }/\T8 vs ns/\ns.length<=n:=by
 have hsh:WShape.hasAll [] args [.list .int]=true:=(pre_splitW hpre).1
 have hc:l.pre.holds [] { args:=args }=true:=(pre_splitW hpre).2
 obtain ⟨d,r,rfl,h1,h2⟩:=hasAllW_cons hsh
 obtain rfl:=hasAllW_nil h2
 obtain ⟨xs,rfl,h3⟩:=hasW_list h1
 obtain ⟨ns,rfl⟩:=items_int h3
 have hlen:ns.length<=n:=by
  unfold OpenLaw.pre at hc
  have h4:(WTm.not (.lt (.lit (.int (n:Int))) (.len (.arg 0)))).holds [] { args:=[.list (ns.map .int)] }=true:=by
   have h4:=(holds_andW hc).1
   rw[hn] at h4
   exact h4
  have h5:=condW_of h4 (w_not (w_lt w_lit (w_len_list (w_arg rfl))))
  rw[b7] at h5
  refine CH fun q=>?_
  have q':(n:Int)<((ns.length:Nat):Int):=by lia
  first
   | (rw[decide_eq_true q'] at h5;exact absurd h5 (by decide))
   | (simp at h5;lia)
 cases hwl with
 | cons w1 w2 =>
  cases w2
  cases w1 with
  | list ho hall=>exact ⟨_,_,ns,rfl,rfl,ho,jU ns _ hall,hlen⟩
theorem xh (l:OpenLaw) (args:List WData):l.row.toRowW.claim.post args (.bool true) args=true :=
 postW_of (r:=l.row.toRowW) (X:=(true == true))
  (show Hw [] (.bool true) .bool=true by first|rfl|decide|simp[Hw,WShape.arms,WShape.armsAll])
  (show (WTm.eq .res (.lit (.bool true))).value [] { args:=args,res:=some (.bool true),after:=args }=some (.bool (true == true)) from w_eq_bool (w_res rfl) w_lit) rfl
theorem sM {l:OpenLaw}{n:Nat}{q:f6}{loose:List Str}{XP:(Str->Option b8)->Heap->Prop}{YP:j6->Heap->Prop}{d:DefRec}
  (hn:l.most=some n) (hdf:d.params.defaults=[])
  (call:∀(w:j6) (s₀ s₁:b9) (mg mb:Str->Option b8) (fa:Addr) (o:Obj) (pm cd doc:b8) (a:Addr) (vs:List b8) (ns:List Int),
   Ground q loose [] XP w s₀ mg mb s₁.heap->YP w s₁.heap ->
   s₁.heap.get? fa=some o->o.data=.func (docDef d.name d.params d.body d.scope pm cd doc)->s₁.heap.CodeRec cd d.name->mg d.name=some (.ref fa) ->
   s₁.heap.get? a=some { cls:=.type "list",data:=.seq vs.toArray }->T8 vs ns->ns.length<=n->s₁.gens=#[] ->
   nQ (n0 l.prog w) nR (.call (.ref fa) ⟨[.ref a],[]⟩) (fun r s'=>r=.ok (.ret (.bool true))/\OldK s₁.heap s'.heap/\s'.os=s₁.os/\fm s'.gens) s₁):
  WalkO q loose XP YP l.row.toRowW d [] (fun f vs=>yc f vs):=by
 intro w s₀ s₁ mg mb G Y fa o pm cd doc dV kV ho hd hcd hD hmg hg args vals as hpre hlay hrd hwl hlo
 obtain rfl:dV=.none:=Dflts.none hD hdf
 obtain rfl:kV=.none:=Dflts.noKw hD
 obtain ⟨a,vs,ns,rfl,rfl,hobj,hints,hlen⟩:=wX hn hpre hwl
 refine enter_call (nP (call w s₀ s₁ mg mb fa o pm cd doc a vs ns G Y ho (fd_plain hd) hcd hmg hobj hints hlen hg) fun r s' hq=>?_)
 obtain ⟨rfl,h2,h3,h4⟩:=hq
 exact ⟨.inl ⟨.bool true,.bool true,[],rfl,fun _=>rfl,.bool true,xh l _,fun _=>⟨U3,fun _ hm=>(nomatch hm)⟩⟩,h2,h3,h4⟩
section
variable {prog:f6}{w:j6}{A:r6}{E:b8->b9->Prop}{s:b9}{K:Frag}
end
end Att
namespace L2
open PySem PySem.Spec PyProof.Rows
theorem mK:∀{vs:List b8}{ns:List Int},T8 vs ns->J2 (ns.map V.int) vs
 | _,_,.nil=>.nil
 | _,_,.cons n t h=>.cons ⟨t,rfl⟩ (mK h)
noncomputable def Ej (H:Hp):Prop:=∀b,H b=none ∨ ∃o xs,H b=some (.frz o (.lst xs))
variable {P:f6}{w:j6}{K:m6}{mg:Str->Option b8}{k:Nat}{a:Addr}{x:Str}{sp:Sp}{ns:List Int}
theorem zE {mb:Str->Option b8}{CX:tG}{fa:Addr}{fd:A7}{s₁:b9}{vs:List b8}
  (KX:K.In s₁.heap) (hns:s₁.heap.Ns r9 mg) (hb:s₁.heap.Ns wI mb) (hbb:∀x:Str,x≠"__name__"->mb x=T7 x) (hlim:s₁.heap.NoLimit) (hg:s₁.gens=#[])
  (ha:s₁.heap.get? a=some { cls:=.type "list",data:=.seq vs.toArray }) (hi:T8 vs ns) (hl:ns.length<=i8) (hr:cH k nR)
  (F:∀base:Heap,K.In base->base.Ns r9 mg->L3 P w K mg base CX k fa fd [x] sp) (hbind:∀(s:b9) (u:b8),og s fd ⟨[u],[]⟩ [(x,u)])
  (hsp:∀H:Hp,Ej H->eA K H a (ns.map V.int)->sp [.ref a] H (fun v _=>v=.bl true) fun _ _ _=>False)
  (hCX:∀H e s',CX [] H s₁ (fun _ _ _=>False) e s'->False):
  nQ (n0 P w) nR (.call (.ref fa) ⟨[.ref a],[]⟩) (fun r s'=>r=.ok (.ret (.bool true))/\OldK s₁.heap s'.heap/\s'.os=s₁.os/\fm s'.gens) s₁:=by
 have rv:=mK hi
 have lenV:=hi.length
 have core:∀H:Hp,Ej H->eA K H a (ns.map V.int)->cW P w H s₁.heap->(∀b,H b≠none->b=a)->(H a≠none->K.lookup a=none) ->
   nQ (n0 P w) nR (.call (.ref fa) ⟨[.ref a],[]⟩) (fun r s'=>r=.ok (.ret (.bool true))/\OldK s₁.heap s'.heap/\s'.os=s₁.os/\fm s'.gens) s₁:=by
  intro H hO hS hok hA hK
  have base_of:∀{b:Addr}{o:Obj},s₁.heap.get? b=some o->H b=none->(pV s₁.heap H).get? b=some o:=fun e n=>zI e n
  have noA:∀{b:Addr}{o:Obj}{es:Array N3}{ep:Nat},s₁.heap.get? b=some o->o.data=.dict es ep->H b=none:=fun {b o es ep} e d=>by
   cases q:H b with
   | none=>rfl
   | some u =>
    have e':b=a:=hA b (by rw[q];simp)
    subst e'
    rw[ha] at e;cases e
    have d':Data.seq vs.toArray _=Data.dict es ep:=d
    cases d'
  have nsK:∀{b:Addr}{m:Str->Option b8},s₁.heap.Ns b m->(pV s₁.heap H).Ns b m:=fun {b m} ⟨o,es,ep,e,d,r⟩=>⟨o,es,ep,base_of e (noA e d),d,r⟩
  have hKb:K.In (pV s₁.heap H):=fun b o e=>base_of (KX b o e) (by
   cases q:H b with
   | none=>rfl
   | some u =>
    have e':b=a:=hA b (by rw[q];simp)
    subst e'
    rw[hK (by rw[q];simp)] at e;cases e)
  have hM:Mod K mg (pV s₁.heap H):=⟨hKb,nsK hns,⟨mb,nsK hb,hbb⟩,let ⟨mc,h1,h2⟩:=hlim;⟨mc,nsK h1,h2⟩⟩
  have e0:BV P w K mg (pV s₁.heap H) nR [] s₁ H:=⟨rfl,hM,fun b o e=>Bw e,Ii (xx _ _),trivial,fun b hb=>absurd (show b∈([]:List Addr) from hb) (by simp),hok,.of_eq hg⟩
  refine nP ((F _ hKb (nsK hns)).run nR [] s₁ H ⟨[.ref a],[]⟩ [.ref a] [.ref a] _ _ hr e0 (hbind s₁ (.ref a)) (.cons rfl .nil) (hsp H hO hS)) fun r s' h=>?_
  cases r with
  | error e=>exact (hCX H e s' h).elim
  | ok fl =>
   cases fl with
   | next=>exact U8 h
   | brk=>exact U8 h
   | cont=>exact U8 h
   | ret u =>
    obtain ⟨v,H',os,bare,un,hok',r',q⟩:=h
    have q':v=.bl true:=q
    subst q'
    obtain rfl:u=nV true:=r'
    refine ⟨rfl,OldK.of_keep fun b o e=>?_,os,bare⟩
    cases q:H b with
    | none=>exact un.keep b o e q (by intro z;exact absurd (show b∈([]:List Addr) from z) (by simp)) (by simp)
    | some u =>
     rcases hO b with z|⟨ob,xs,z⟩
     ·rw[q] at z;cases z
     ·have z2:=un.frzs b ob _ z
      obtain ⟨e1,_⟩:=hok b _ z
      obtain ⟨e2,_⟩:=hok' b _ z2
      rw[e] at e1;cases e1
      exact e2
 cases hk:K.lookup a with
 | some o =>
  have e:=KX a o hk
  rw[ha] at e
  cases e
  refine core (fun _=>none) (fun _=>.inl rfl) (.inr ⟨_,vs.toArray,_,hk,rfl,rfl,rfl,by rw[j0,lenV];exact hl,by simpa using rv⟩) (fun b u z=>by have z':(none:Option HO)=some u:=z;cases z') (fun b z=>absurd rfl z) fun z=>absurd rfl z
 | none =>
  refine core (fun b=>if b=a then some (.frz { cls:=.type "list",data:=.seq vs.toArray } (.lst (ns.map V.int))) else none) (fun b=>?_) (.inl (.inr ⟨{ cls:=.type "list",data:=.seq vs.toArray },if_pos rfl⟩)) (fun b u z=>?_) (fun b z=>?_) fun _=>hk
  ·by_cases hb:b=a
   ·exact .inr ⟨_,_,if_pos hb⟩
   ·exact .inl (if_neg hb)
  ·by_cases hb:b=a
   ·have z':=(if_pos hb).symm.trans z
    cases z'
    subst hb
    exact ⟨ha,by rw[b7];exact hl,vs,_,rv,ha⟩
   ·have z':=(if_neg hb).symm.trans z
    cases z'
  ·by_cases hb:b=a
   ·exact hb
   ·exact absurd (if_neg hb) z
noncomputable abbrev KOf {K:m6}{h:Heap} (_:K.In h):m6:=K
variable {n:Nat}
theorem AL {l:Fg}{q:f6}{loose:List Str}{XP:(Str->Option b8)->Heap->Prop}{YP:j6->Heap->Prop}{d:DefRec}{K:Params->m6}{CX:j6->tG}{sp:j6->Sp}
  (hn:l.most=some n) (hn2:n<=i8) (hdf:d.params.defaults=[]) (hr:cH k nR)
  (hY:∀(w:j6) (h:Heap),YP w h->(K w.params).In h)
  (F:∀(w:j6) (mg:Str->Option b8) (fa:Addr) (h:Heap),(K w.params).In h->h.Ns r9 mg->mg d.name=some (.ref fa) ->
   ∃fd:A7,(∀(s:b9) (u:b8),og s fd ⟨[u],[]⟩ [(x,u)]) /\
    ∀base:Heap,(K w.params).In base->base.Ns r9 mg->L3 l.prog w (K w.params) mg base (CX w) k fa fd [x] (sp w))
  (hsp:∀(w:j6) (H:Hp) (a:Addr) (ns:List Int),ns.length<=n->Ej H->eA (K w.params) H a (ns.map V.int)->sp w [.ref a] H (fun v _=>v=.bl true) fun _ _ _=>False)
  (hCX:∀(w:j6) (H:Hp) (s:b9) (e:b8) (s':b9),CX w [] H s (fun _ _ _=>False) e s'->False):
  W.WalkO q loose XP YP l.row.toRowW d [] (fun f vs=>yc f vs):=by
 refine Att.sM hn hdf fun w s₀ s₁ mg mb fa o pm cd doc a vs ns G Y ho hd hcd hmg hobj hints hlen hg=>?_
 have KX:=hY w _ Y
 obtain ⟨fd,hb,hF⟩:=F w mg fa _ KX G.T.g hmg
 exact zE KX G.T.g G.T.b G.T.builtins G.T.nolimit hg hobj hints (f9 hlen hn2) hr hF hb (fun H hO hS=>hsp w H a ns hlen hO hS) fun H e s'=>hCX w H s₁ e s'
noncomputable def dU (s:Stmt):Im:=match s with
 | .FunctionDef _ a _ _ _ _ _ _ _ _=>a
 | _=>{ posonlyargs:=[],args:=[],vararg:=none,kwonlyargs:=[],kw_defaults:=[],kwarg:=none,defaults:=[] }
noncomputable def ba (s:Stmt):List Stmt:=match s with
 | .FunctionDef _ _ b _ _ _ _ _ _ _=>b
 | _=>[]
noncomputable def u0 (s:Stmt):Q2:=match s with
 | .FunctionDef _ _ _ _ _ _ sc _ _ _=>sc
 | _=>{ kind:=.function,names:=[],isGenerator:=false,isCoroutine:=false }
noncomputable abbrev dA:tG:=fun _ _ _ _ _ _=>False
noncomputable abbrev E0:XK:=fun _ _ _=>False
variable {X:Cx}
theorem Gd :jz dA X E0:=fun _ _ _ _ _ _ _ h=>h.elim
structure bC (K:m6) (x qual:Str) (st:Stmt) (f:Addr) (fd:A7):Prop where
 ex:∃(oc:b8) (od:Option Addr) (kV doc pm:b8) (an:Option Addr) (cdv ct:b8) (osl:Array (Option b8)),
  fd=fU x qual (dU st) (ba st) (u0 st) .none kV doc pm an cdv ct/\K.lookup f=some ⟨oc,od,.func fd,osl⟩/\mi K cdv qual=true
 kp:dB K (.ref f)=true
section
variable {P:f6}{w:j6}{K:m6}{mg:Str->Option b8}{base:Heap}
variable {x qual:Str}{st:Stmt}{f:Addr}
theorem bC.ok {fd:A7}{N ps:List Str}{k:Nat}{sp:Sp} (F:bC K x qual st f fd) (S:A2 N ps (u0 st)) (len:∀vs H Q E,sp vs H Q E->vs.length=ps.length)
  (hbody:∀(cdv:b8) (A:r6) (outer:List Env) (s:b9) (H:Hp) (vs:List V) (Q:VK) (E:XK),cH k (A.deeper (V8 qual (u0 st) s.heap.objs.size f cdv))->sp vs H Q E ->
   ∃t,qv (dW dA P w K mg base N qual (u0 st) f cdv A outer s H E).nox (ba st) t/\t { nx:=fun _ H'=>Q .non H',rt:=Q } (start N vs) H):L3 P w K mg base dA (k+1) f fd ps sp:=by
 obtain ⟨oc,od,kV,doc,pm,an,cdv,ct,osl,rfl,lk,hcd⟩:=F.ex
 refine Cs lk hcd S len fun A outer s H vs Q E hr hsp=>?_
 obtain ⟨t,h,q⟩:=hbody cdv A outer s H vs Q E hr hsp
 exact ⟨t,h.nox,q⟩
theorem bC.binds {fd:A7}{ps:List Str} (F:bC K x qual st f fd)
  (h:∀(kV doc pm:b8) (an:Option Addr) (cdv ct:b8) (us:List b8),us.length=ps.length->bindArgs (fU x qual (dU st) (ba st) (u0 st) .none kV doc pm an cdv ct) ⟨us,[]⟩=pure (ps.zip us)):iB K fd ps []:=by
 obtain ⟨oc,od,kV,doc,pm,an,cdv,ct,osl,rfl,lk,hcd⟩:=F.ex
 exact .all (h kV doc pm an cdv ct)
theorem uQ {oc:b8}{od an:Option Addr}{osl:Array (Option b8)}{kV doc pm cdv ct:b8} (l:K.lookup f=some ⟨oc,od,.func (fU x qual (dU st) (ba st) (u0 st) .none kV doc pm an cdv ct),osl⟩)
  (c:mi K cdv qual=true) (k:dB K (.ref f)=true):bC K x qual st f (fU x qual (dU st) (ba st) (u0 st) .none kV doc pm an cdv ct):=⟨⟨oc,od,kV,doc,pm,an,cdv,ct,osl,rfl,l,c⟩,k⟩
end
variable {A:r6}
theorem zH (hr:cH k A):A.units+1<R8:=F3 (Ai (by decide:1<=64) _) hr.units
theorem mS (h:n<=1000):n<i8:=F3 h (by decide)
section
variable {X:Cx}
theorem pv (i:Nat) {x:Str}{pos:Pos} (hN:X.N[i]?=some x:=by rfl) (hv:HL X.env.scope x:=by first|exact t5 rfl|exact bZ (t5 rfl)|exact bZ (bZ rfl)) (hd:(x == ("__debug__":Str))=false:=by decide)
  (hcd:(x == ("__classdict__":Str))=false:=by decide):PE X (.Name x pos) (yq i):=DA hN hv hd hcd
end
variable {B:Prop}
theorem ak {A:Prop} (h:B):if false=true then A else B:=by
 rw[if_neg n9]
 exact h
theorem bB {A:Prop} (h:A):if true=true then A else B:=by
 rw[if_pos rfl]
 exact h
theorem uO {c A:Prop} [Decidable c] (h1:c->A) (h2:¬ c->B):if c then A else B:=by
 by_cases h:c
 ·rw[if_pos h]
  exact h1 h
 ·rw[if_neg h]
  exact h2 h
theorem Gz {c A:Prop} [Decidable c] (hc:c) (h:B):if (!decide c)=true then A else B:=by
 rw[decide_eq_true hc]
 exact ak h
noncomputable def j4 (H H':Hp):Prop:=∀b o,H b=some o->H' b=some o
theorem j4.refl (H:Hp):j4 H H:=fun _ _ h=>h
variable {H:Hp}
theorem j4.trans {H1 H2:Hp} (a:j4 H H1) (b:j4 H1 H2):j4 H H2:=fun c o h=>b c o (a c o h)
variable {H':Hp}
theorem j4.free (e:j4 H H') {l:Addr} (h:H' l=Fl):H l=Fl:=by
 cases q:H l with
 | none=>rfl
 | some o =>
  rw[e l o q] at h
  cases h
set_option maxHeartbeats 4000000
theorem bf:∀(names:List (Str × W2)) (n:Nat) (acc:List (Str × Addr)),L4 n names acc=L4 n names []++acc
 | [],n,acc=>rfl
 | (x,k)::r,n,acc=>by
  unfold L4
  split
  ·rw[bf r (n+1) ((x,n)::acc),bf r (n+1) [(x,n)],S3]
   rfl
  ·exact bf r n acc
noncomputable def cA (env:Env):List (Str × W2)->List (Str × Addr)->List (Str × Addr)
 | [],acc=>acc
 | (x,k)::r,acc=>if k == .free then cA env r ((x,(env.cells.lookup x).getD 0)::acc) else cA env r acc
theorem sD {env:Env} (f:Str × W2->List (Str × Addr)->Sem (ForInStep (List (Str × Addr))))
  (hf:∀name kind cs,f (name,kind) cs=if kind == .free then (do let a <- cellOf env name;pure (.yield ((name,a)::cs))) else pure (.yield cs)):
  ∀(names:List (Str × W2)) (acc:List (Str × Addr)),(∀x∈names,x.2=.free->∃c,env.cells.lookup x.1=some c)->forIn names acc f=pure (cA env names acc)
 | [],acc,_=>by rw[Y5];rfl
 | (x,k)::r,acc,h=>by
  have ih:=fun acc=>sD f hf r acc fun y hy=>h y (i3 _ hy)
  rw[W4,hf]
  unfold cA
  by_cases hk:(k == O9)=true
  ·rw[if_pos hk,if_pos hk]
   obtain ⟨c,hc⟩:=h (x,k) f7 (beq_iff_eq.mp hk)
   have hc':env.cells.lookup x=some c:=hc
   have:cellOf env x=pure c:=by unfold cellOf;rw[hc']
   rw[this,hc']
   simp only[pure_bind,Option.getD_some]
   exact ih _
  ·rw[if_neg hk,if_neg hk]
   simp only[pure_bind]
   exact ih _
variable {scope:Q2}{env:Env}
theorem fQ (h:∀x∈scope.names,x.2=.free->∃c,env.cells.lookup x.1=some c):closureFor scope env=pure (cA env scope.names []):=by
 simp only[closureFor]
 rw[sD (env:=env) _ (fun name kind cs=>by cases hk:kind == O9 <;> simp[hk]) scope.names [] h]
 rfl
theorem fx {env:Env}:∀{names:List (Str × W2)}{acc:List (Str × Addr)}{x:Str}{c:Addr},(∀x∈names,x.2=.free->∃c,env.cells.lookup x.1=some c) ->
  (x,c)∈cA env names acc->(x,c)∈acc ∨ env.cells.lookup x=some c
 | [],acc,x,c,_,hm=>.inl hm
 | (y,k)::r,acc,x,c,h,hm=>by
  have hr:∀x∈r,x.2=.free->∃c,env.cells.lookup x.1=some c:=fun z hz=>h z (i3 _ hz)
  unfold cA at hm
  by_cases hk:(k == O9)=true
  ·rw[if_pos hk] at hm
   obtain ⟨d,hd⟩:=h (y,k) f7 (beq_iff_eq.mp hk)
   have hd':env.cells.lookup y=some d:=hd
   rcases fx hr hm with q|q
   ·rcases List.mem_cons.mp q with e|q
    ·cases e
     right;rw[hd'];rfl
    ·exact .inl q
   ·exact .inr q
  ·rw[if_neg hk] at hm
   exact fx hr hm
theorem ju {env:Env}:∀{names:List (Str × W2)}{acc:List (Str × Addr)}{p:Str × Addr},p∈acc->p∈cA env names acc
 | [],_,_,h=>h
 | (y,k)::r,acc,p,h=>by
  unfold cA
  split
  ·exact ju (i3 _ h)
  ·exact ju h
theorem fA {env:Env}:∀{names:List (Str × W2)}{acc:List (Str × Addr)}{x:Str},(x,O9)∈names->∃c,(x,c)∈cA env names acc
 | [],_,_,h=>by cases h
 | (y,k)::r,acc,x,h=>by
  unfold cA
  rcases List.mem_cons.mp h with e|h
  ·cases e
   rw[if_pos (by rfl)]
   exact ⟨_,ju f7⟩
  ·split
   ·exact fA h
   ·exact fA h
theorem cT {α:Type}:∀{l:List (Str × α)}{x:Str}{c:α},(x,c)∈l->∃d,l.lookup x=some d
 | (k,v)::r,x,c,h=>by
  rw[F6]
  cases hb:x == k with
  | true=>exact ⟨v,rfl⟩
  | false =>
   rcases List.mem_cons.mp h with e|h
   ·cases e;simp at hb
   ·exact cT h
theorem cx {α:Type}:∀{l l':List (Str × α)}{x:Str}{c:α},(l++l').lookup x=some c->l.lookup x=some c ∨ (l.lookup x=none/\l'.lookup x=some c)
 | [],l',x,c,h=>.inr ⟨rfl,h⟩
 | (k,v)::r,l',x,c,h=>by
  rw[U1,F6] at h
  rw[F6]
  cases hb:x == k with
  | true=>rw[hb] at h;exact .inl h
  | false=>rw[hb] at h;exact cx h
theorem T9 {α:Type}:∀{l l':List (Str × α)}{x:Str}{c:α},l.lookup x=some c->(l++l').lookup x=some c
 | [],l',x,c,h=>by cases h
 | (k,v)::r,l',x,c,h=>by
  rw[U1,F6]
  rw[F6] at h
  cases hb:x == k with
  | true=>rw[hb] at h;exact h
  | false=>rw[hb] at h;exact T9 h
theorem Y4 {α:Type}:∀{l l':List (Str × α)}{x:Str},l.lookup x=none->(l++l').lookup x=l'.lookup x
 | [],l',x,h=>rfl
 | (k,v)::r,l',x,h=>by
  rw[U1,F6]
  rw[F6] at h
  cases hb:x == k with
  | true=>rw[hb] at h;cases h
  | false=>rw[hb] at h;exact Y4 h
theorem cw {env:Env}:∀(names:List (Str × W2)) (x:Str),
  (names.map fun (n,k)=>if (k == O9&&env.scope.kind == .function&&env.kindOf n == some .cell) then (n,bj) else (n,k)).lookup x
   =(names.lookup x).map fun k=>if (k == O9&&env.scope.kind == .function&&env.kindOf x == some .cell)=true then bj else k
 | [],x=>rfl
 | (n,k)::r,x=>by
  have ih:=cw (env:=env) r x
  rw[j8]
  cases hx:x == n with
  | true =>
   have e:x=n:=beq_iff_eq.mp hx
   subst e
   by_cases hc:(k == O9&&env.scope.kind == .function&&env.kindOf x == some .cell)=true
   ·simp only[hc,if_true,F6,hx,aj]
   ·simp only[hc,F6,hx,aj]
    simp
  | false =>
   show List.lookup x ((if (k == O9&&env.scope.kind == .function&&env.kindOf n == some .cell)=true then (n,bj) else (n,k))::_)=_
   by_cases hc:(k == O9&&env.scope.kind == .function&&env.kindOf n == some .cell)=true
   ·rw[if_pos hc]
    simp only[F6,hx]
    exact ih
   ·rw[if_neg hc]
    simp only[F6,hx]
    exact ih
theorem dX:∀{names:List (Str × W2)}{n:Nat}{acc:List (Str × Addr)}{x:Str}{d:Addr},(x,d)∈L4 n names acc->(x,d)∈acc ∨ (x,bj)∈names
 | [],_,_,_,_,h=>.inl h
 | (y,k)::r,n,acc,x,d,h=>by
  unfold L4 at h
  by_cases hk:(k == bj)=true
  ·rw[if_pos hk] at h
   have e:k=.cell:=beq_iff_eq.mp hk
   subst e
   rcases dX h with q|q
   ·rcases List.mem_cons.mp q with z|z
    ·cases z;exact .inr f7
    ·exact .inl z
   ·exact .inr (i3 _ q)
  ·rw[if_neg hk] at h
   rcases dX h with q|q
   ·exact .inl q
   ·exact .inr (i3 _ q)
noncomputable def ig (scope:Q2):Bool:=scope.names.all fun x=>scope.names.lookup x.1 == some x.2
theorem eV (h:ig scope=true) {x:Str × W2} (hx:x∈scope.names):scope.names.lookup x.1=some x.2:=beq_iff_eq.mp (List.all_eq_true.mp h x hx)
theorem oO (h:(nM scope env).names.lookup x=some .cell ∨ (nM scope env).names.lookup x=some .free):
  scope.names.lookup x=some .cell ∨ scope.names.lookup x=some .free:=by
 unfold nM at h
 rw[cw] at h
 cases e:scope.names.lookup x with
 | none=>rw[e] at h;rcases h with h|h <;> cases h
 | some k =>
  rw[e,aj] at h
  by_cases hc:(k == O9&&env.scope.kind == .function&&env.kindOf x == some .cell)=true
  ·rw[u7,u7] at hc
   exact .inr (by rw[beq_iff_eq.mp hc.1.1])
  ·simp only[hc] at h
   simpa using h
variable {M:lW}{E:b8->b9->Prop}{s:b9}
theorem rP {globals:Addr}{cl:List (Str × Addr)}{qual:Str}{Q:Env->b9->Prop}
  (h:Q (newEnv scope s.heap.objs.size globals (L4 (s.heap.objs.size+1) scope.names []++cl) qual none .none (some env) wI)
   { s with heap:=fS (s.heap.push { cls:=.type "dict",data:=.dict #[] }) scope.names }):
  i5 M A (wH scope globals cl [] qual none .none (some env)) Q E s:=by
 simp only[wH,xM,if_true]
 refine b5 (wpAny_alloc ?_)
 refine b5 (wpAny_layCells _ (fun name kind cells=>by cases hkc:kind == bj <;> simp[hkc]) _ _ _ _ ?_)
 rw[show ({ s with heap:=s.heap.push { cls:=.type "dict",data:=.dict #[] } }:b9).heap.objs.size=s.heap.objs.size+1 from C0 ..,bf]
 exact b5 (d5 (d5 h))
noncomputable def Cx.comp (X:Cx) (scope:Q2) (N:List Str) (s:b9) (H:Hp) (ex:List Addr):Cx where
 prog:=X.prog
 w:=X.w
 K:=X.K
 mg:=X.mg
 base:=X.base
 A:=X.A
 N:=N
 s₀:=s
 H₀:=H
 env:=compEnvC scope (L4 (s.heap.objs.size+1) scope.names []++cA X.env scope.names []) s.heap.objs.size X.env
 outer:=X.stack
 stack:=X.stack
 ex:=ex
 fn:=fun x=>scope.names.lookup x == some .cell
 calm:=X.calm
 pn:=[]
 xe:=fun _ _=>False
noncomputable def gw (ix:List (Option Nat)) (σ:St):St:=ix.map fun o=>o.bind fun i=>(σ[i]?).join
noncomputable def gC (scope:Q2) (N:List Str):List Str->List (Option Nat)->Bool
 | [],[]=>true
 | _::N',none::ix=>gC scope N N' ix
 | x::N',some i::ix=>N[i]? == some x&&scope.names.lookup x == some .free&&gC scope N N' ix
 | _,_=>false
theorem ly {scope:Q2}{N:List Str}:∀{N':List Str}{ix:List (Option Nat)},gC scope N N' ix=true->ix.length=N'.length
 | [],[],_=>rfl
 | _::N',none::ix,h=>by simp[ly (N':=N') (ix:=ix) h]
 | x::N',some i::ix,h=>by
  unfold gC at h
  rw[u7] at h
  simp[ly (N':=N') (ix:=ix) h.2]
 | [],_::_,h=>by simp[gC] at h
 | _::_,[],h=>by simp[gC] at h
theorem lz {scope:Q2}{N:List Str}:∀{N':List Str}{ix:List (Option Nat)}{j i:Nat},gC scope N N' ix=true->ix[j]?=some (some i) ->
  ∃x,N'[j]?=some x/\N[i]?=some x/\scope.names.lookup x=some .free
 | [],[],j,i,_,e=>by simp at e
 | y::N',none::ix,0,i,h,e=>by simp at e
 | y::N',none::ix,j+1,i,h,e=>by
  obtain ⟨x,h1,h2⟩:=lz (N':=N') (ix:=ix) (j:=j) (i:=i) h (by simpa using e)
  exact ⟨x,by simpa using h1,h2⟩
 | y::N',some k::ix,0,i,h,e=>by
  unfold gC at h
  rw[u7,u7] at h
  simp at e
  subst e
  exact ⟨y,rfl,beq_iff_eq.mp h.1.1,beq_iff_eq.mp h.1.2⟩
 | y::N',some k::ix,j+1,i,h,e=>by
  unfold gC at h
  rw[u7] at h
  obtain ⟨x,h1,h2⟩:=lz (N':=N') (ix:=ix) (j:=j) (i:=i) h.2 (by simpa using e)
  exact ⟨x,by simpa using h1,h2⟩
 | [],_::_,_,_,h,_=>by simp[gC] at h
 | _::_,[],_,_,h,_=>by simp[gC] at h
noncomputable def jh (scope:Q2) (env:Env):Bool:=scope.names.all fun x=>!(x.2 == .free) || env.kindOf x.1 == some .cell || env.kindOf x.1 == some .free
theorem lA (h:jh scope env=true) {x:Str × W2} (hx:x∈scope.names) (hk:x.2=.free):env.kindOf x.1=some .cell ∨ env.kindOf x.1=some .free:=by
 have:=List.all_eq_true.mp h x hx
 rw[hk] at this
 simpa using this
section
variable {X:Cx}{pins:List (Addr × Obj)}{σ:St}{H:Hp}{s:b9}{scope:Q2}{N:List Str}{ix:List (Option Nat)}{ex:List Addr}
theorem A9.closed (I:A9 X pins σ H s) (hf:jh scope X.env=true):∀x∈scope.names,x.2=.free->∃c,X.env.cells.lookup x.1=some c :=
 fun x hx hk=>I.ok.has x.1 (lA hf hx hk)
theorem yR {j:Nat}{v:V} (h:(gw ix σ)[j]?=some (some v)):∃i,ix[j]?=some (some i)/\σ[i]?=some (some v):=by
 unfold gw at h
 rw[m7] at h
 cases e:ix[j]? with
 | none=>rw[e] at h;cases h
 | some o =>
  rw[e] at h
  cases o with
  | none=>cases h
  | some i =>
   refine ⟨i,rfl,?_⟩
   have h':(σ[i]?).join=some v:=E2 h
   cases q:σ[i]? with
   | none=>rw[q] at h';cases h'
   | some z=>rw[q] at h';exact congrArg some h'
theorem A9.comp (I:A9 X pins σ H s) (hk:scope.kind=.function) (hnm:ig scope=true) (hf:jh scope X.env=true) (hx:gC scope X.N N ix=true)
  (hex:∀b∈ex,H b=none/\b≠X.env.locals/\b ∉ X.fs/\(b∈X.ex ∨ X.s₀.heap.objs.size<=b)/\(∀x c,X.env.cells.lookup x=some c->c≠b)/\b<s.heap.objs.size):
  A9 (X.comp scope N s H ex) [] (gw ix σ) H { s with heap:=fS (s.heap.push { cls:=.type "dict",data:=.dict #[] }) scope.names }:=by
 have hcl:=I.closed hf
 have hkeep:∀b o,s.heap.get? b=some o->(fS (s.heap.push { cls:=.type "dict",data:=.dict #[] }) scope.names).get? b=some o:=fun b o e=>tH _ _ b o (d6 _ e)
 have ok:=cellsFrom_ok scope.names (s.heap.push { cls:=.type "dict",data:=.dict #[] }) (s.heap.objs.size+1) [] ⟨fun _ _ hm=>(nomatch hm),U3⟩ (by rw[C0];exact d9 _)
 rw[C0] at ok
 have hns:(fS (s.heap.push { cls:=.type "dict",data:=.dict #[] }) scope.names).Ns s.heap.objs.size (fun _=>none):=(Heap.Ns.new s.heap (.type "dict")).keeps (tH _ _)
 have cells:∀x c,(X.comp scope N s H ex).env.cells.lookup x=some c->(x,c)∈L4 (s.heap.objs.size+1) scope.names [] ∨ X.env.cells.lookup x=some c:=fun x c e=>by
  have e':(L4 (s.heap.objs.size+1) scope.names []++cA X.env scope.names []).lookup x=some c:=e
  rcases cx e' with q|⟨_,q⟩
  ·exact .inl (mem_of_lookup q)
  ·rcases fx hcl (mem_of_lookup q) with z|z
   ·cases z
   ·exact .inr z
 have old:∀x c,X.env.cells.lookup x=some c->c+1<=s.heap.objs.size:=fun x c e=>let ⟨v,q⟩:=I.cell x c e;q.lt
 have own:∀x c,(x,c)∈L4 (s.heap.objs.size+1) scope.names []->s.heap.objs.size+1<=c:=fun x c e=>(ok.empty x c e).2
 refine ⟨⟨I.ok.mod,hk,I.ok.glob,I.ok.blt,d9 _,fun x y c h1 h2=>?_,fun x h1=>?_,fun x c h1 h2=>?_,I.ok.hd,I.ok.frames,.inl rfl,fun b hb=>⟨?_,fun x c e=>?_⟩,I.bs,f9 I.ok.bsz I.sz,fun b o e hb=>?_,fun b hb hb'=>?_,I.stack,I.stkFree⟩,
  rfl,I.bare,Un.kept hkeep,⟨_,hns,fun j x v h1 h2 h3=>?_⟩,fun x c e=>?_,I.hok.fresh (d9 _),fun x c e=>?_,fun p hp=>absurd (show p∈([]:List (Addr × Obj)) from hp) (by simp),I.hok.kept hkeep,?_⟩
 ·rcases cells x c h1 with q1|q1 <;> rcases cells y c h2 with q2|q2
  ·exact name_of_addr ok.apart q1 q2
  ·exact absurd (f9 (own _ _ q1) (f9 (Y6 _) (old _ _ q2))) (yd _)
  ·exact absurd (f9 (own _ _ q2) (f9 (Y6 _) (old _ _ q1))) (yd _)
  ·exact I.ok.inj x y c q1 q2
 ·have h1':scope.names.lookup x=some .cell ∨ scope.names.lookup x=some .free:=oO h1
  rcases h1' with q|q
  ·obtain ⟨c,e⟩:=iu (n:=s.heap.objs.size+1) (sc:=scope) q
   exact ⟨c,T9 e⟩
  ·obtain ⟨c,e⟩:=fA (env:=X.env) (acc:=[]) (mem_of_lookup q)
   cases z:(L4 (s.heap.objs.size+1) scope.names []).lookup x with
   | some d=>exact ⟨d,T9 z⟩
   | none =>
    obtain ⟨d,e'⟩:=cT e
    exact ⟨d,(Y4 z).trans e'⟩
 ·have h1':scope.names.lookup x=some .cell:=beq_iff_eq.mp h1
  obtain ⟨d,e⟩:=iu (n:=s.heap.objs.size+1) (sc:=scope) h1'
  have e':(L4 (s.heap.objs.size+1) scope.names []++cA X.env scope.names []).lookup x=some c:=h2
  rw[T9 e] at e'
  cases e'
  exact f9 (Y6 _) (own _ _ (mem_of_lookup e))
 ·exact q9 (hex b hb).2.2.2.2.2
 ·rcases cells x c e with q|q
  ·exact B4 (w9 (hex b hb).2.2.2.2.2 (f9 (Y6 _) (own _ _ q)))
  ·exact (hex b hb).2.2.2.2.1 x c q
 ·rcases (hex b hb).2.2.2.1 with z|z
  ·exact I.ok.noex b o e z
  ·exact absurd (w9 (i4 e) (f9 I.ok.bsz z)) (T3 _)
 ·rcases List.mem_cons.mp (I.stkSub b hb') with z|z
  ·exact (hex b hb).2.1 z
  ·exact (hex b hb).2.2.1 z
 ·obtain ⟨i,e1,e2⟩:=yR h2
  obtain ⟨y,f1,f2,f3⟩:=lz hx e1
  have exy:x=y:=by
   have h1':N[j]?=some x:=h1
   rw[f1] at h1';exact (E2 h1').symm
  subst exy
  obtain ⟨m,hm,hl⟩:=I.loc
  have kx:=lA hf (mem_of_lookup f3) rfl
  have vis:HL X.env.scope x:=by
   rcases kx with k|k
   ·exact .inr (.inl k)
   ·exact .inr (.inr k)
  obtain ⟨u,ru,l⟩:=hl i x v f2 e2 vis
  refine ⟨u,ru,.inr ?_⟩
  have hv:(nM scope X.env).names.lookup x=some .cell ∨ (nM scope X.env).names.lookup x=some .free:=by
   unfold nM
   rw[cw,f3,aj]
   split
   ·exact .inl rfl
   ·exact .inr rfl
  refine ⟨hv,?_⟩
  rcases l with ⟨k,_⟩|⟨k,c,ec,z⟩
  ·have k':X.env.kindOf x=some .local:=k
   rcases kx with q|q <;> rw[q] at k' <;> cases k'
  ·obtain ⟨d,ed⟩:=fA (env:=X.env) (acc:=[]) (mem_of_lookup f3)
   have nocell:(L4 (s.heap.objs.size+1) scope.names []).lookup x=none ∨ ∃d,(L4 (s.heap.objs.size+1) scope.names []).lookup x=some d:=by
    cases (L4 (s.heap.objs.size+1) scope.names []).lookup x with
    | none=>exact .inl rfl
    | some d=>exact .inr ⟨d,rfl⟩
   rcases nocell with q|⟨d',q⟩
   ·obtain ⟨d2,ed2⟩:=cT ed
    have hd2:X.env.cells.lookup x=some d2:=by
     rcases fx hcl (mem_of_lookup ed2) with z|z
     ·cases z
     ·exact z
    rw[ec] at hd2
    cases hd2
    exact ⟨c,(Y4 q).trans ed2,z.keeps hkeep⟩
   ·-- a name is not both free and a cell of the block
    exfalso
    rcases dX (mem_of_lookup q) with z|z
    ·cases z
    ·have z':=eV hnm z
     rw[f3] at z'
     cases z'
 ·rcases cells x c e with q|q
  ·exact ⟨none,(ok.empty x c q).1⟩
  ·obtain ⟨v,z⟩:=I.cell x c q
   exact ⟨v,z.keeps hkeep⟩
 ·rcases cells x c e with q|q
  ·exact I.hok.fresh (f9 (Y6 _) (own x c q))
  ·exact I.freeC x c q
 ·show (gw ix σ).length=N.length
  unfold gw
  rw[b7]
  exact ly hx
end
section
variable {prog:f6}{w:j6}{A:r6}{R:mj->b9->Prop}{s:b9}
theorem qd {elt target iter:Expr}{ifs:List Expr}{scope:Q2}{pos:Pos}{it acc:b8}{env:Env} (I:Nat->b9->Prop)
  (turn:∀n s,I n s->i5 (n0 prog w) A (ah it) (fun r s₁=>match r with
   | none=>R (.ok .next) s₁
   | some v=>i5 (n0 prog w) A (iG target it v) (fun _ s₁'=>i5 (n0 prog w) A (mh target env v) (fun _ s₂ =>
     i5 (n0 prog w) A (forIn ifs true fun c r=>if r=true then do let ok <- EW c env (eval c env);pure (Z2 ok) else pure (Z2 r)) (fun ok s₃ =>
      if ok=true then i5 (n0 prog w) A (eval elt env) (fun x s₄ =>
       i5 (n0 prog w) A (call (.builtin "list.append") [acc,x]) (fun _ s₅=>∃m,m<n/\I m s₅) (fun _ _=>False) s₄) (fun _ _=>False) s₃
      else ∃m,m<n/\I m s₃) (fun _ _=>False) s₂) (fun _ _=>False) s₁') (fun _ _=>False) s₁) (fun _ _=>False) s)
  (n:Nat) (h:I n s):
  nQ (n0 prog w) A (.compLoop (.ListComp elt [⟨target,iter,ifs,0⟩] scope pos) 0 it acc env) R s:=by
 refine codeAny_loop rfl I (fun n s hI=>?_) n h
 show i5 _ A ((compTurn (.ListComp elt [⟨target,iter,ifs,0⟩] scope pos) 0 it acc env).onRaise (fun x=>do HY x env;theTreesLotGoes x)) _ _ s
 refine wpAny_noted ?_
 rw[compTurn_list]
 refine b5 (lQ (b5 (F9 (turn n s hI) (fun r s₁ h₁=>?_) fun _ _ h'=>h'.elim)))
 cases r with
 | none=>exact d5 h₁
 | some v =>
  refine b5 (F9 h₁ (fun _ s₁' h₁'=>?_) fun _ _ h'=>h'.elim)
  refine b5 (F9 h₁' (fun _ s₂ h₂=>b5 (F9 h₂ (fun ok s₃ h₃=>?_) fun _ _ h'=>h'.elim)) fun _ _ h'=>h'.elim)
  cases ok with
  | false=>exact d5 ⟨rfl,h₃⟩
  | true =>
   exact b5 (b5 (F9 h₃ (fun x s₄ h₄=>b5 (F9 h₄ (fun _ s₅ h₅=>d5 (d5 ⟨rfl,h₅⟩)) fun _ _ h'=>h'.elim)) fun _ _ h'=>h'.elim))
end
noncomputable def Wk (σ σ2:St):Prop:=σ.length=σ2.length/\∀(i:Nat) v,σ[i]?=some (some v)->σ2[i]?=some (some v)
theorem Wk.set {σ:St}{i:Nat}{v:V} (h:σ[i]?=some none ∨ σ[i]?=none):Wk σ (σ.set i (some v)):=by
 refine ⟨by simp,fun j u e=>?_⟩
 by_cases hj:j=i
 ·subst hj
  rcases h with h|h <;> rw[h] at e <;> cases e
 ·rw[F0 (G8 hj)]
  exact e
section
variable {X:Cx}{pins:List (Addr × Obj)}{σ:St}{H H':Hp}{s s':b9}{scope:Q2}{N:List Str}{ix:List (Option Nat)}{fp:List Addr}
noncomputable abbrev X4 (s:b9):b9:={ s with heap:=s.heap.push { cls:=.type "list",dict:=none,data:=.seq ([]:List b8).toArray } }
theorem Y8 (s:b9):(X4 s).heap.objs.size=s.heap.objs.size+1:=C0 ..
theorem A9.comp_end {pins':List (Addr × Obj)}{σ':St}{ys:List V}{its:List b8}{n:Nat}{h':Heap} (I:A9 X pins σ H s) (J:A9 (X.comp scope N (X4 s) H (s.heap.objs.size::fp)) pins' σ' H' s') (hfp:∀b∈fp,jX X pins H b)
  (hD:H' s.heap.objs.size=none) (hl:s'.heap.get? s.heap.objs.size=some { cls:=.type "list",data:=.seq its.toArray n }) (hv:J2 ys its) (hz:ys.length<=i8)
  (hs:D0 (X4 s).heap.objs.size s'.heap h'):A9 X pins σ (v8 H' s.heap.objs.size (.lst ys)) { s' with heap:=h' }:=by
 have oldC:∀b,b<s.heap.objs.size->b≠(X4 s).heap.objs.size:=fun b hb=>by rw[Y8];exact q9 (L9 hb)
 have DC:s.heap.objs.size≠(X4 s).heap.objs.size:=by rw[Y8];exact q9 (Q3 _)
 have pushed:∀b o,s.heap.get? b=some o->(X4 s).heap.get? b=some o:=fun b o e=>d6 _ e
 have nex:∀b o,s.heap.get? b=some o->b ∉ fp->b ∉ (X.comp scope N (X4 s) H (s.heap.objs.size::fp)).ex:=fun b o e hb z=>by
  rcases List.mem_cons.mp (show b∈s.heap.objs.size::fp from z) with z|z
  ·rw[z] at e;exact absurd (i4 e) (T3 _)
  ·exact hb z
 have U:=J.base
 have un:Un (pX X.stack) fp H (v8 H' s.heap.objs.size (.lst ys)) s.heap h':=by
  refine ⟨fun b o e n hb hx=>?_,fun b o e n hb hx=>?_,fun b o e n hx=>?_,fun b o e hx=>?_,fun b xs e=>?_,fun b o u e=>?_,fun b ps e=>?_⟩
  ·exact (hs.2 b (oldC b (i4 e))).trans (U.keep b o (pushed b o e) n hb (nex b o e hx))
  ·obtain ⟨sl,q⟩:=U.slot b o (pushed b o e) n hb (nex b o e hx)
   exact ⟨sl,(hs.2 b (oldC b (i4 e))).trans q⟩
  ·rw[A3 (q9 (i4 e))]
   exact U.free b o (pushed b o e) n (nex b o e hx)
  ·obtain ⟨o',q⟩:=U.there b o (pushed b o e) (nex b o e hx)
   exact ⟨o',(hs.2 b (oldC b (i4 e))).trans q⟩
  ·have q:=U.tups b xs e
   rw[A3 (u3 q hD)];exact q
  ·have q:=U.frzs b o u e
   rw[A3 (u3 q hD)];exact q
  ·obtain ⟨m,q⟩:=U.tbls b ps e
   exact ⟨m,by rw[A3 (u3 q hD)];exact q⟩
 have hC:H' (X4 s).heap.objs.size=none:=J.free
 have hok:cW X.prog X.w (v8 H' s.heap.objs.size (.lst ys)) h':=fun b u e=>by
  by_cases hb:b=s.heap.objs.size
  ·subst hb
   rw[i6] at e;cases e
   exact ⟨hz,its,n,hv,(hs.2 _ DC).trans hl⟩
  ·rw[A3 hb] at e
   refine (J.hok b u e).stay (fun c v hc q=>(hs.2 c ?_).trans q) (fun c q=>by rw[A3 (u3 q hD)];exact q) fun c xs q=>by rw[A3 (u3 q hD)];exact q
   rintro rfl
   rcases hc with z|z
   ·rw[<- z,hC] at e;cases e
   ·rw[hC] at z;cases z
 exact I.call' (s':={ s' with heap:=h' }) (ch:=fp) J.os un hok J.bare fun b hb=>⟨(hfp b hb).2.2.2.1,(hfp b hb).2.1,(hfp b hb).2.2.2.2.1,(hfp b hb).2.2.2.2.2⟩
end
section
variable {X:Cx}{scope:Q2}{N:List Str}{ix:List (Option Nat)}{elt target iter:Expr}{ifs:List Expr}{pos:Pos}{wi:TI}{g:TG}{te:TE}{tc:TT}
noncomputable def BR (X:Cx) (ifs:List Expr) (t:TT):Prop :=
 ∀(pins:List (Addr × Obj)) (s:b9) (σ:St) (H:Hp) (Q:Bool->Hp->Prop),A9 X pins σ H s->t σ H Q ->
  i5 (n0 X.prog X.w) X.A (forIn ifs true fun c r=>if r=true then do let ok <- EW c X.env (eval c X.env);pure (Z2 ok) else pure (Z2 r)) (TP X pins σ Q) X.xe s
noncomputable def M0:TT:=fun _ H Q=>Q true H
theorem D8:BR X [] M0:=fun _ _ _ H _ I h=>wpAny_tests_nil ⟨H,I,h⟩
noncomputable def Ac (J:It) (σ0:St) (g:TG) (tc:TT) (te:TE) (H1:Hp) (F:List V->Hp->Prop):Prop:=∃W:Nat->Nat->List V->Hp->Prop,(∃m,W 0 m [] H1)/\∀i m ys H2,W i m ys H2->ys.length<=i8 /\
 ((J.stop i H2/\F ys H2) ∨
  (J.go i H2/\∃(Ny:V->Hp->Prop) (Nn:Hp->Prop),(∀y H,Ny y H->∃m',m'<m/\W (i+1) m' (ys++[y]) H)/\(∀H,Nn H->∃m',m'<m/\W (i+1) m' ys H) /\
    ∀x H3,J.yld i H2 x H3->g x σ0 H3 fun σ2 H4=>Wk σ0 σ2/\tc σ2 H4 fun b H5=>if b=true then te σ2 H5 Ny else Nn H5))
theorem sv {pins:List (Addr × Obj)}{σ:St}{H:Hp}{s:b9}{it:Addr}{fp:List Addr}{tn:Nat->Heap->Prop}{J:It}{F:List V->Hp->Prop}{E:b8->b9->Prop}{RR:b8->Addr->mj->b9->Prop}
  (hc:X.calm=true) (hk:scope.kind=.function) (hnm:ig scope=true) (hf:jh scope X.env=true) (hx:gC scope X.N N ix=true)
  (hg:∀s H ex,PG (X.comp scope N s H ex) target g) (ht:∀s H ex,BR (X.comp scope N s H ex) ifs tc) (he:PE (X.comp scope N (X4 s) H (s.heap.objs.size::fp)) elt te)
  (I:A9 X pins σ H s) (T:qt X.prog X.w X.K target J fp it tn) (st:tn 0 s.heap) (hfp:∀b∈fp,jX X pins H b) (B:Ac J (gw ix σ) g tc te H F)
  (fin:∀(ys:List V) (H':Hp) (s':b9) (σ':St) (its:List b8) (n:Nat),A9 (X.comp scope N (X4 s) H (s.heap.objs.size::fp)) [] σ' H' s'->H' s.heap.objs.size=none ->
   s'.heap.get? s.heap.objs.size=some { cls:=.type "list",data:=.seq its.toArray n }->J2 ys its->ys.length<=i8->F ys H'->RR (.ref s.heap.objs.size) (X4 s).heap.objs.size (.ok .next) s'):
  i5 (n0 X.prog X.w) X.A (newList []) (fun acc s₃=>i5 (n0 X.prog X.w) X.A (wH scope X.env.globals (cA X.env scope.names []) [] X.env.qual none .none (some X.env)) (fun cenv s₄ =>
   nQ (n0 X.prog X.w) X.A (.compStart (.ListComp elt [⟨target,iter,ifs,0⟩] scope pos) 0 (.ref it) acc { cenv with scope:=nM scope X.env }) (RR acc cenv.locals) s₄) E s₃) E s:=by
 refine A1 (rP ?_) (by show ([]:List b8).toArray.size<=i8;exact j5 _)
 obtain ⟨W,⟨m0,w0⟩,turn⟩:=B
 have I1:A9 X pins σ H (X4 s):=I.kept (t':=s.toks) fun b o e=>d6 _ e
 have fpLt:∀b∈fp,b<s.heap.objs.size:=fun b hb=>let ⟨o,e,_⟩:=T.obj 0 _ st b hb;i4 e
 have accE:(X4 s).heap.get? s.heap.objs.size=some { cls:=.type "list",dict:=none,data:=.seq ([]:List b8).toArray }:=n5 _ rfl
 have fD:jX X pins H s.heap.objs.size:=I.fpOk (d9 _) (I.hok.fresh (d9 _))
 have J0:A9 (X.comp scope N (X4 s) H (s.heap.objs.size::fp)) [] (gw ix σ) H _:=I1.comp (N:=N) (ix:=ix) (ex:=s.heap.objs.size::fp) hk hnm hf hx fun b hb=>by
  rcases List.mem_cons.mp hb with z|z
  ·subst z
   exact ⟨fD.1,fD.2.1,fD.2.2.1,fD.2.2.2.1,fD.2.2.2.2.1,by rw[Y8];exact Q3 _⟩
  ·obtain ⟨f0,f1,f2,f3,f4,_⟩:=hfp b z
   exact ⟨f0,f1,f2,f3,f4,by rw[Y8];exact L9 (fpLt b z)⟩
 have keep0:∀b o,(X4 s).heap.get? b=some o->(fS ((X4 s).heap.push { cls:=.type "dict",data:=.dict #[] }) scope.names).get? b=some o:=fun b o e=>tH _ _ b o (d6 _ e)
 have st0:tn 0 (fS ((X4 s).heap.push { cls:=.type "dict",data:=.dict #[] }) scope.names):=T.keep 0 _ _ st fun b hb o e=>keep0 b o (d6 _ e)
 have exOk:∀b∈s.heap.objs.size::fp,b≠(X.comp scope N (X4 s) H (s.heap.objs.size::fp)).env.locals/\b ∉ (X.comp scope N (X4 s) H (s.heap.objs.size::fp)).fs /\
   ∀x c,(X.comp scope N (X4 s) H (s.heap.objs.size::fp)).env.cells.lookup x=some c->c≠b:=fun b hb=>⟨(J0.ok.exf b hb).1,J0.ok.exfs b hb,(J0.ok.exf b hb).2⟩
 have stat:∀{H':Hp}{o:Obj},(∀b∈fp,H' b=none)->∀b∈fp,jX (X.comp scope N (X4 s) H (s.heap.objs.size::fp)) [(s.heap.objs.size,o)] H' b:=fun {H' o} hn b hb=>by
  obtain ⟨e1,e2,e3⟩:=exOk b (i3 _ hb)
  refine ⟨hn b hb,e1,e2,.inl (i3 _ hb),e3,fun p hp=>?_⟩
  have hp':p∈[(s.heap.objs.size,o)]:=(List.mem_append.mp hp).elim (fun z=>absurd (show p∈([]:List (Addr × Obj)) from z) (by simp)) id
  rw[List.mem_singleton.mp hp']
  exact B4 (fpLt b hb)
 have loop:nQ (n0 X.prog X.w) X.A (.compLoop (.ListComp elt [⟨target,iter,ifs,0⟩] scope pos) 0 (.ref it) (.ref s.heap.objs.size) (X.comp scope N (X4 s) H (s.heap.objs.size::fp)).env) (RR (.ref s.heap.objs.size) (X4 s).heap.objs.size)
   { X4 s with heap:=fS ((X4 s).heap.push { cls:=.type "dict",data:=.dict #[] }) scope.names }:=by
  refine qd (fun n s'=>∃i ys its k H',A9 (X.comp scope N (X4 s) H (s.heap.objs.size::fp)) [] (gw ix σ) H' s'/\tn i s'.heap/\(∀b∈fp,H' b=none)/\H' s.heap.objs.size=none /\
   s'.heap.get? s.heap.objs.size=some { cls:=.type "list",data:=.seq (its:List b8).toArray k }/\J2 ys its/\W i n ys H') ?_ m0
   ⟨0,[],[],0,H,J0,st0,fun b hb=>(hfp b hb).1,fD.1,keep0 _ _ accE,.nil,w0⟩
  rintro n s3 ⟨i,ys,its,k,H3,I3,st3,fr3,d3,l3,v3,w3⟩
  obtain ⟨hz,hw⟩:=turn i n ys H3 w3
  have pinD:A9 (X.comp scope N (X4 s) H (s.heap.objs.size::fp)) [(s.heap.objs.size,{ cls:=.type "list",data:=.seq its.toArray k })] (gw ix σ) H3 s3:=I3.pins_of fun p hp=>by
   rw[List.mem_singleton.mp hp]
   exact ⟨l3,d3,(exOk _ f7).1,(exOk _ f7).2.1,fun v z=>by cases z⟩
  rcases hw with ⟨stop,fy⟩|⟨go,Ny,Nn,hNy,hNn,step⟩
  ·refine R4 (T.done (X.comp scope N (X4 s) H (s.heap.objs.size::fp)) rfl rfl rfl hc i _ s3 (gw ix σ) H3 (fun _ _=>False) pinD (stat fr3) st3 stop) fun r s4 ⟨hr,I4⟩=>?_
   subst hr
   have q:=(I4.pin (s.heap.objs.size,_) (r0 _ f7)).1
   exact fin ys H3 s4 _ its k (I4.pins_of fun p hp=>by cases hp) d3 q v3 hz fy
  ·refine R4 (T.item (X.comp scope N (X4 s) H (s.heap.objs.size::fp)) rfl rfl rfl hc i _ s3 (gw ix σ) H3 (fun _ _=>False) pinD (stat fr3) st3 go) fun r s4 ⟨u,hr,h4⟩=>?_
   subst hr
   refine R4 h4 fun _ s5 ⟨x,H5,I5,r5,y5,st5,fr5⟩=>?_
   have I5':=I5.pinned (stat fr5) (T.obj _ _ st5)
   refine R4 (hg (X4 s) H (s.heap.objs.size::fp) _ s5 (gw ix σ) H5 x u _ I5' r5 (step x H5 y5)) fun _ s6 ⟨σ6,H6,I6,wk6,q6⟩=>?_
   refine R4 (ht (X4 s) H (s.heap.objs.size::fp) _ s6 σ6 H6 _ I6 q6) fun ok s7 ⟨H7,I7,q7⟩=>?_
   cases ok with
   | false =>
    obtain ⟨m',hm,w7⟩:=hNn H7 q7
    refine ⟨m',hm,i+1,ys,its,k,H7,(I7.weak wk6.1 wk6.2).pins_of (fun p hp=>by cases hp),?_,fun b hb=>?_,?_,?_,v3,w7⟩
    ·exact T.keep _ _ _ st5 fun b hb o e=>(I7.pin (b,o) (r0 _ (r0 _ (aU hb e)))).1
    ·obtain ⟨o,e,d⟩:=T.obj _ _ st5 b hb
     exact (I7.pin (b,o) (r0 _ (r0 _ (aU hb e)))).2.1
    ·exact (I7.pin (s.heap.objs.size,_) (r0 _ (E9 _ f7))).2.1
    ·exact (I7.pin (s.heap.objs.size,_) (r0 _ (E9 _ f7))).1
   | true =>
    show i5 _ _ _ _ _ _
    refine R4 (he _ s7 σ6 H7 _ I7 q7) fun yv s8 ⟨y,H8,I8,r8,q8'⟩=>?_
    obtain ⟨m',hm,w8⟩:=hNy y H8 q8'
    have q8:=I8.pin (s.heap.objs.size,_) (r0 _ (E9 _ f7))
    refine wpAny_list_append_plain (l:=s.heap.objs.size) (items:=its.toArray) ⟨k,q8.1⟩ (fun h' hl' sb=>?_) (by rw[j0,<- v3.length];exact hz)
    obtain ⟨k',hl'⟩:=hl'
    have I9:A9 (X.comp scope N (X4 s) H (s.heap.objs.size::fp)) [] (gw ix σ) H8 { s8 with heap:=h' }:=((I8.weak wk6.1 wk6.2).pins_of (pins':=[]) (fun p hp=>by cases hp)).turned (t':=s8.toks) (it:=s.heap.objs.size)
     (fun b o hb e=>(sb.2 b hb).trans e) q8.2.1 (exOk _ f7).1 (.inl f7) (exOk _ f7).2.2 (fun p hp=>absurd (show p∈([]:List (Addr × Obj)) from hp) (by simp))
    refine ⟨m',hm,i+1,ys++[y],its++[yv],k',H8,I9,?_,fun b hb=>?_,q8.2.1,?_,v3.append (.cons r8 .nil),w8⟩
    ·refine T.keep _ _ _ st5 fun b hb o e=>(sb.2 b (q9 (fpLt b hb))).trans (I8.pin (b,o) (r0 _ (r0 _ (aU hb e)))).1
    ·obtain ⟨o,e,d⟩:=T.obj _ _ st5 b hb
     exact (I8.pin (b,o) (r0 _ (r0 _ (aU hb e)))).2.1
    ·have e:its.toArray.push yv=(its++[yv]).toArray:=by simp
     rw[<- e];exact hl'
 exact codeAny_compStart_list loop (T.self _ 0 _ _ _ st0 loop)
theorem F5 (hc:X.calm=true) (hi:PI X target iter wi) (hg:∀s H ex,PG (X.comp scope N s H ex) target g) (ht:∀s H ex,BR (X.comp scope N s H ex) ifs tc) (he:∀s H ex,PE (X.comp scope N s H ex) elt te)
  (hk:scope.kind=.function) (hnm:ig scope=true) (hf:jh scope X.env=true) (hx:gC scope X.N N ix=true) (hs:∀x,nN iter X.env x=pure x):
  PE X (.ListComp elt [⟨target,iter,ifs,0⟩] scope pos) (fun σ H Q=>wi σ H fun J H1=>Ac J (gw ix σ) g tc te H1 fun ys H2=>∀p,H2 p=none->Q (.ref p) (v8 H2 p (.lst ys))):=by
 intro pins s σ H Q I h
 rw[eval_ListComp]
 refine xU (use:=none) rfl hs (fQ (I.closed hf)) hk (fun x hx hl=>(eV hnm hx).trans (by rw[hl])) ?_
 refine R4 (hi pins s σ H _ I h) fun v s1 h1=>R4 h1 fun itv s2 h2=>?_
 obtain ⟨it,fp,tn,J,H2,e,I2,T,st2,f2,B⟩:=h2
 subst e
 refine sv (RR:=fun acc C=>compPost (n0 X.prog X.w) X.A X.xe none (EP X pins σ Q) acc C) hc hk hnm hf hx hg ht (he _ _ _) I2 T st2 f2 B ?_
 intro ys H' s' σ' its n J' hD hl hv hz hF
 obtain ⟨m,hm,_⟩:=J'.loc
 exact ⟨m,hm,fun h' hs'=>⟨.ref s2.heap.objs.size,_,I2.comp_end J' f2 hD hl hv hz hs',rfl,hF _ hD⟩⟩
theorem cK {i:Nat}{y:Str}{py spos:Pos} (hc:X.calm=true) (hN:X.N.Nodup) (hn:X.N[i]?=some y) (hy:X.env.scope.names.lookup y=some .local)
  (hi:PI X target iter wi) (hg:∀s H ex,PG (X.comp scope N s H ex) target g) (ht:∀s H ex,BR (X.comp scope N s H ex) ifs tc) (he:∀s H ex,PE (X.comp scope N s H ex) elt te)
  (hk:scope.kind=.function) (hnm:ig scope=true) (hf:jh scope X.env=true) (hx:gC scope X.N N ix=true) (hs:∀x,nN iter X.env x=pure x)
  (hsw:qI (.ListComp elt [⟨target,iter,ifs,0⟩] scope pos) (some (.Name y py)) spos.line X.env=pure true):
  PS X (.Assign [.Name y py] (.ListComp elt [⟨target,iter,ifs,0⟩] scope pos) spos) (fun D σ H=>wi σ H fun J H1=>Ac J (gw ix σ) g tc te H1 fun ys H2=>∀p,H2 p=none->D.nx (σ.set i (some (.ref p))) (v8 H2 p (.lst ys))):=by
 intro pins s σ H D I h
 rw[exec_Assign_Name_used _ _ _ _ hsw]
 refine b5 (lQ (b5 ?_))
 show i5 _ X.A (do let _ <- comprehension (.ListComp elt [⟨target,iter,ifs,0⟩] scope pos) scope X.env _ (newList []) false (eval iter X.env) (some (mh (.Name y py) X.env))) _ _ s
 refine b5 (R4 (xU (use:=some (mh (.Name y py) X.env)) (Q:=fun _ s'=>SP X pins D .next s') rfl hs (fQ (I.closed hf)) hk (fun x hx hl=>(eV hnm hx).trans (by rw[hl])) ?_) fun _ s' hq=>d5 (d5 hq))
 refine R4 (hi pins s σ H _ I h) fun v s1 h1=>R4 h1 fun itv s2 h2=>?_
 obtain ⟨it,fp,tn,J,H2,e,I2,T,st2,f2,B⟩:=h2
 subst e
 refine sv (RR:=fun acc C=>compPost (n0 X.prog X.w) X.A X.xe (some (mh (.Name y py) X.env)) (fun _ s'=>SP X pins D .next s') acc C) hc hk hnm hf hx hg ht (he _ _ _) I2 T st2 f2 B ?_
 intro ys H' s' σ' its n J' hD hl hv hz hF
 obtain ⟨m,hm,_⟩:=J'.loc
 have I3:=I2.comp_end (h':=s'.heap) J' f2 hD hl hv hz (.refl ..)
 show i5 _ X.A (mh (.Name y py) X.env (.ref s2.heap.objs.size)) _ _ _
 refine Hc (mO (v:=.ref s2.heap.objs.size) I3 hN hn (.inl hy) rfl (fun s'' I4 hsb=>?_) (.inr hy))
 obtain ⟨a,sb,ha⟩:=hsb
 have hCa:(X4 s2).heap.objs.size≠a:=by
  rw[Y8]
  rcases ha with z|z
  ·rw[z];exact B4 (L9 I2.lt)
  ·obtain ⟨v,q⟩:=I2.cell y a z
   exact B4 (L9 q.lt)
 have hC2:(v8 H' s2.heap.objs.size (.lst ys)) (X4 s2).heap.objs.size=none:=by
  rw[A3 (by rw[Y8];exact B4 (Q3 _))]
  exact J'.free
 refine ⟨m,hm.sameBut sb hCa,fun h' hs'=>?_⟩
 refine ⟨_,_,?_,hF _ hD⟩
 obtain ⟨m2,n2,_⟩:=id I4.loc
 refine I4.turned (t':=s''.toks) (it:=(X4 s2).heap.objs.size) (fun b o hb e=>(hs'.2 b hb).trans e) hC2 ?_ ?_ ?_ ?_
 ·rw[Y8];exact B4 (L9 I2.lt)
 ·rw[Y8];exact .inr (f9 I2.sz (Y6 _))
 ·intro x c e
  obtain ⟨v,q⟩:=I2.cell x c e
  rw[Y8];exact q9 (L9 q.lt)
 ·intro p hp
  rw[Y8];exact q9 (L9 (i4 (I2.pin p hp).1))
end
section
variable {X:Cx}{pins:List (Addr × Obj)}{σ:St}{H:Hp}{s:b9}{p:Addr}{xs:List V}
variable {A:r6}
theorem eJ {E:b8->b9->Prop}{Q:b8->b9->Prop} (I:A9 X pins σ H s) (hh:A.handled=none) (hs:eA X.K H p xs ∨ bV X.K H p xs)
  (h:∀(its:List b8) (it:Addr) (fp wr:List Addr) (St:Nat->Heap->Prop) (h2:Heap),J2 xs its->Walks X.prog X.w A it fp wr its.length (fun i v=>its[i]?=some v) St->St 0 h2->(∀b∈fp,b<h2.objs.size) ->
   (∀h':Heap,(∀b o,b ∉ wr->h2.get? b=some o->h'.get? b=some o)->∀b o,s.heap.get? b=some o->h'.get? b=some o)->Q (.ref it) { s with heap:=h2 }):
  i5 (n0 X.prog X.w) A (jN (.ref p)) Q E s:=by
 have keep:∀(o:Obj) (h':Heap),(∀b u,b ∉ [s.heap.objs.size]->(s.heap.push o).get? b=some u->h'.get? b=some u)->∀b u,s.heap.get? b=some u->h'.get? b=some u:=fun o h' hk b u e =>
  hk b u (fun hm=>by rw[List.mem_singleton.mp hm] at e;exact T3 _ (i4 e)) (d6 _ e)
 rcases hs with hs|hs
 ·obtain ⟨its,rv,pl,hz⟩:=I.list hs
  have hlt:p<s.heap.objs.size:=by obtain ⟨_,e,_⟩:=pl.isList;exact i4 e
  refine nK pl.isList ?_
  have W:=Walks.list (prog:=X.prog) (w:=X.w) (A:=A) hh s.heap.objs.size p (q9 hlt) its.toArray
  refine h its s.heap.objs.size [s.heap.objs.size,p] [s.heap.objs.size] (fun i h=>h.IsListIter s.heap.objs.size p i/\h.IsList p its.toArray) _ rv (by simpa using W) ⟨⟨_,n5 _ rfl,rfl,rfl⟩,pl.isList.push _⟩ (fun b hb=>?_) (keep _)
  rw[C0]
  rcases List.mem_cons.mp hb with rfl|hb
  ·exact Q3 _
  ·rw[List.mem_singleton.mp hb];exact L9 hlt
 ·obtain ⟨its,rv,pl,hz⟩:=I.tuple hs
  have pl':s.heap.IsTuple p its.toArray:=pl
  have hlt:p<s.heap.objs.size:=pl.lt
  refine X8 pl' ?_
  have W:=Walks.tuple (prog:=X.prog) (w:=X.w) (A:=A) hh s.heap.objs.size p (q9 hlt) its.toArray
  refine h its s.heap.objs.size [s.heap.objs.size,p] [s.heap.objs.size] (fun i h=>h.IsTupleIter s.heap.objs.size p i/\h.IsTuple p its.toArray) _ rv (by simpa using W) ⟨⟨_,n5 _ rfl,rfl,rfl⟩,pl'.push _⟩ (fun b hb=>?_) (keep _)
  rw[C0]
  rcases List.mem_cons.mp hb with rfl|hb
  ·exact Q3 _
  ·rw[List.mem_singleton.mp hb];exact L9 hlt
noncomputable def gK (ns:List Int) (i:Nat):Int:=(ns[i]?).getD 0
theorem lr (ns:List Int):∀k,preSum (gK ns) k=(ns.take k).sum
 | 0=>by simp[preSum]
 | k+1=>by
  rw[preSum,lr ns k,t6,CJ]
  unfold gK
  cases ns[k]? <;> simp
theorem eD {ns:List Int}{its:List b8} (r:J2 (ns.map V.int) its) {i:Nat}{v:b8} (e:its[i]?=some v):∃t,v=.int (gK ns i) t:=by
 have hl:=r.length
 rw[b7] at hl
 have hi:i<ns.length:=by rw[hl];exact (List.getElem?_eq_some_iff.mp e).1
 obtain ⟨u,hu,ru⟩:=r.get (i:=i) (x:=.int ns[i]) (by rw[m7,d0 hi];rfl)
 rw[e] at hu;cases hu
 obtain ⟨t,rfl⟩:=ru
 exact ⟨t,by unfold gK;rw[d0 hi];rfl⟩
theorem aE (hc:X.calm=true):Z0 X (.builtin "sum") (fun xs H Q=>∃(p:Addr) (ns:List Int),xs=[.ref p]/\(eA X.K H p (ns.map V.int) ∨ bV X.K H p (ns.map V.int))/\Q (.int ns.sum) H):=by
 intro pins s σ H xs us Q I r h
 obtain ⟨p,ns,rfl,hs,q⟩:=h
 obtain ⟨u,rfl,ru⟩:=ee r
 cases ru
 refine call_sum_walkG (eJ (A:=X.A.in1) I (I.ok.hd hc) hs fun its it fp wr St h2 rv W st hfp keep=>?_)
 refine ⟨it,fp,wr,its.length,_,St,gK ns,rfl,W,st,hfp,fun i v e=>eD rv e,fun h' tk t' hk=>?_⟩
 have e:preSum (gK ns) its.length=ns.sum:=by
  rw[lr,<- rv.length,b7,u5]
 rw[e]
 exact ⟨.int ns.sum,H,I.kept (keep h' hk),⟨_,rfl⟩,q⟩
noncomputable def kK:V->Bool
 | .bl b=>b
 | .int i=>i != 0
 | .non=>false
 | _=>true
noncomputable def vQ:V->Bool
 | .bl _=>true
 | .int _=>true
 | .non=>true
 | _=>false
theorem AO {E:b8->b9->Prop}{x:V}{v:b8}{s:b9}{Q:Bool->b9->Prop} (r:J3 x v) (ok:vQ x=true) (h:Q (kK x) s):i5 (n0 X.prog X.w) A (truthy v) Q E s:=by
 cases x with
 | bl b=>cases r;exact P4 h
 | int i=>obtain ⟨t,rfl⟩:=r;exact PyProof.Rows.truthy_int h
 | non=>cases r;exact PyProof.Rows.truthy_none h
 | _=>exact absurd (show false=true from ok) n9
noncomputable def mw (d:Bool) (xs:List V) (i:Nat):Bool:=((xs[i]?).map kK).getD d
theorem BO (xs:List V):(G5 xs.length).all (mw true xs)=xs.all kK:=by
 rw[W9,U2,U2]
 constructor
 ·intro h b hb
  obtain ⟨i,hi,e⟩:=cF hb
  have:=h i (List.mem_range.mpr hi)
  unfold mw at this
  rw[d0 hi,e] at this
  exact this
 ·intro h i hi
  have hi':=List.mem_range.mp hi
  unfold mw
  rw[d0 hi']
  exact h _ (C4 hi')
theorem BN (xs:List V):(G5 xs.length).any (mw false xs)=xs.any kK:=by
 rw[W9,Cf,Cf]
 constructor
 ·rintro ⟨i,hi,e⟩
  have hi':=List.mem_range.mp hi
  unfold mw at e
  rw[d0 hi'] at e
  exact ⟨_,C4 hi',e⟩
 ·rintro ⟨b,hb,e⟩
  obtain ⟨i,hi,rfl⟩:=cF hb
  refine ⟨i,List.mem_range.mpr hi,?_⟩
  unfold mw
  rw[d0 hi]
  exact e
theorem jF {its:List b8} (d:Bool) (rv:J2 xs its) (ok:xs.all vQ=true):TruthOf X.prog X.w A (fun i v=>its[i]?=some v) (mw d xs):=by
 intro i v s Q E e hQ
 have hi:i<xs.length:=by rw[rv.length];exact (List.getElem?_eq_some_iff.mp e).1
 obtain ⟨u,hu,ru⟩:=rv.get (i:=i) (x:=xs[i]) (by rw[d0 hi])
 rw[e] at hu;cases hu
 refine AO (X:=X) ru (List.all_eq_true.mp ok _ (C4 hi)) ?_
 unfold mw at hQ
 rw[d0 hi] at hQ
 exact hQ
theorem dY (hc:X.calm=true):Z0 X (.builtin "all") (fun xs H Q=>∃(p:Addr) (ys:List V),xs=[.ref p]/\(eA X.K H p ys ∨ bV X.K H p ys)/\ys.all vQ=true/\Q (.bl (ys.all kK)) H):=by
 intro pins s σ H xs us Q I r h
 obtain ⟨p,ys,rfl,hs,ok,q⟩:=h
 obtain ⟨u,rfl,ru⟩:=ee r
 cases ru
 refine call_all_walk (eJ (A:=X.A.in1) I (I.ok.hd hc) hs fun its it fp wr St h2 rv W st hfp keep=>?_)
 refine ⟨it,fp,wr,its.length,_,St,mw true ys,rfl,W,st,jF true rv ok,fun h' tk hk=>?_⟩
 rw[<- rv.length,BO]
 exact ⟨.bl _,H,I.kept (keep h' hk),rfl,q⟩
theorem iy (hc:X.calm=true):Z0 X (.builtin "any") (fun xs H Q=>∃(p:Addr) (ys:List V),xs=[.ref p]/\(eA X.K H p ys ∨ bV X.K H p ys)/\ys.all vQ=true/\Q (.bl (ys.any kK)) H):=by
 intro pins s σ H xs us Q I r h
 obtain ⟨p,ys,rfl,hs,ok,q⟩:=h
 obtain ⟨u,rfl,ru⟩:=ee r
 cases ru
 refine call_any_walk (eJ (A:=X.A.in1) I (I.ok.hd hc) hs fun its it fp wr St h2 rv W st hfp keep=>?_)
 refine ⟨it,fp,wr,its.length,_,St,mw false ys,rfl,W,st,jF false rv ok,fun h' tk hk=>?_⟩
 rw[<- rv.length,BN]
 exact ⟨.bl _,H,I.kept (keep h' hk),rfl,q⟩
theorem qj (hc:X.calm=true):Z0 X (.builtin "max") (fun xs H Q=>∃(p:Addr) (ns:List Int),xs=[.ref p]/\(eA X.K H p (ns.map V.int) ∨ bV X.K H p (ns.map V.int))/\ns≠[]/\∀m,m∈ns->(∀n∈ns,n<=m)->Q (.int m) H):=by
 intro pins s σ H xs us Q I r h
 obtain ⟨p,ns,rfl,hs,hne,q⟩:=h
 obtain ⟨u,rfl,ru⟩:=ee r
 cases ru
 refine call_max_walk (eJ (A:=X.A.in1) I (I.ok.hd hc) hs fun its it fp wr St h2 rv W st hfp keep=>?_)
 have hl:its.length=ns.length:=by rw[<- rv.length,b7]
 have hp:0<ns.length:=List.length_pos_iff.mpr hne
 refine ⟨it,fp,wr,its.length,_,St,_,rfl,W,st,hfp,by rw[hl];exact hp,CmpOf.ints_gt (gK ns) (fun i v e=>eD rv e),fun v h' tk e hk=>?_⟩
 obtain ⟨t,rfl⟩:=eD rv e
 obtain ⟨a1,a2⟩:=argBest_gt (gK ns) (its.length - 1)
 have hb:vd (fun i j=>decide (gK ns i > gK ns j)) (its.length - 1)<ns.length:=by lia
 have e1:gK ns (vd (fun i j=>decide (gK ns i > gK ns j)) (its.length - 1))∈ns:=by
  generalize hg:vd (fun i j=>decide (gK ns i > gK ns j)) (its.length - 1)=k at hb
  unfold gK
  rw[d0 hb]
  exact C4 hb
 refine ⟨.int _,H,I.kept (keep h' hk),⟨_,rfl⟩,q _ e1 fun n hn=>?_⟩
 obtain ⟨j,hj,rfl⟩:=cF hn
 have:=a2 j (by lia)
 have e2:gK ns j=ns[j]:=by unfold gK;rw[d0 hj];rfl
 rw[e2] at this
 exact this
theorem qi (hc:X.calm=true):Z0 X (.builtin "min") (fun xs H Q=>∃(p:Addr) (ns:List Int),xs=[.ref p]/\(eA X.K H p (ns.map V.int) ∨ bV X.K H p (ns.map V.int))/\ns≠[]/\∀m,m∈ns->(∀n∈ns,m<=n)->Q (.int m) H):=by
 intro pins s σ H xs us Q I r h
 obtain ⟨p,ns,rfl,hs,hne,q⟩:=h
 obtain ⟨u,rfl,ru⟩:=ee r
 cases ru
 refine call_min_walk (eJ (A:=X.A.in1) I (I.ok.hd hc) hs fun its it fp wr St h2 rv W st hfp keep=>?_)
 have hl:its.length=ns.length:=by rw[<- rv.length,b7]
 have hp:0<ns.length:=List.length_pos_iff.mpr hne
 refine ⟨it,fp,wr,its.length,_,St,_,rfl,W,st,hfp,by rw[hl];exact hp,CmpOf.ints_lt (gK ns) (fun i v e=>eD rv e),fun v h' tk e hk=>?_⟩
 obtain ⟨t,rfl⟩:=eD rv e
 obtain ⟨a1,a2⟩:=argBest_lt (gK ns) (its.length - 1)
 have hb:vd (fun i j=>decide (gK ns i<gK ns j)) (its.length - 1)<ns.length:=by lia
 have e1:gK ns (vd (fun i j=>decide (gK ns i<gK ns j)) (its.length - 1))∈ns:=by
  generalize hg:vd (fun i j=>decide (gK ns i<gK ns j)) (its.length - 1)=k at hb
  unfold gK
  rw[d0 hb]
  exact C4 hb
 refine ⟨.int _,H,I.kept (keep h' hk),⟨_,rfl⟩,q _ e1 fun n hn=>?_⟩
 obtain ⟨j,hj,rfl⟩:=cF hn
 have:=a2 j (by lia)
 have e2:gK ns j=ns[j]:=by unfold gK;rw[d0 hj];rfl
 rw[e2] at this
 exact this
end
section
variable {prog:f6}{w:j6}{A:r6}{E:b8->b9->Prop}{s:b9}
theorem lC {it t:Addr}{i:Nat}{its:Array b8}{x:b8}{Q:b8->b9->Prop} (hit:s.heap.IsTupleIter it t i) (ht:s.heap.IsTuple t its) (hx:its[i]?=some x)
  (hQ:∀h',h'.IsTupleIter it t (i+1)->D0 it s.heap h'->Q x { s with heap:=h' }):i5 (n0 prog w) A (C3 (.ref it)) Q E s:=by
 obtain ⟨o,ho,hc,hd⟩:=id hit
 obtain ⟨ol,hol,_,nl,hdl⟩:=ht
 unfold C3
 refine b5 (A4 (name:=O1 "__next__") hit.typeIs Z7
  (y6 Z7 hit.typeIs tm ?_ (qL _)))
 show i5 _ _ (lU (.ref it) 0 >>= _) _ _ s
 refine b5 (y4 ho hd (x:=.ref t) rfl ?_)
 show i5 _ _ (if (j3 t == A5)=true then _ else _) _ _ s
 rw[if_neg (show ¬ ((j3 t == A5)=true) from n9)]
 show i5 _ _ (lU (.ref it) 1 >>= _) _ _ s
 refine b5 (y4 ho hd (x:=.int i 0) rfl ?_)
 show i5 _ _ (seqItems? (.ref t) >>= _) _ _ s
 refine b5 (S0 hol hdl ?_)
 simp only[S8,hx]
 refine b5 (V5 ho hd (by simp) (d5 ⟨x,rfl,d5 (hQ _ ?_ (G7 ..))⟩))
 exact ⟨_,X7 _ ho (bJ (R0 hd _)),(kD ..).trans hc,by
  rw[R0 hd];simp[V7]⟩
end
section
variable {prog:f6}{w:j6}{A:r6}{E:b8->b9->Prop}{s:b9}
variable {it:Addr}{i:Nat}{its:Array b8}{Q:b8->b9->Prop}
theorem nh {t:Addr}(hh:A.handled=none) (hit:s.heap.IsTupleIter it t i) (ht:s.heap.IsTuple t its) (hx:its[i]?=none)
  (hE:∀h' e,gI it s.heap h'->(∃o,h'.get? e=some o/\o.cls=.type "StopIteration")->E (.ref e) { s with heap:=h' }):i5 (n0 prog w) A (C3 (.ref it)) Q E s:=by
 obtain ⟨o,ho,hc,hd⟩:=id hit
 obtain ⟨ol,hol,_,nl,hdl⟩:=ht
 unfold C3
 refine b5 (A4 (name:=O1 "__next__") hit.typeIs Z7
  (y6 Z7 hit.typeIs tm ?_ (qL _)))
 show i5 _ _ (lU (.ref it) 0 >>= _) _ _ s
 refine b5 (y4 ho hd (x:=.ref t) rfl ?_)
 show i5 _ _ (if (j3 t == A5)=true then _ else _) _ _ s
 rw[if_neg (show ¬ ((j3 t == A5)=true) from n9)]
 show i5 _ _ (lU (.ref it) 1 >>= _) _ _ s
 refine b5 (y4 ho hd (x:=.int i 0) rfl ?_)
 show i5 _ _ (seqItems? (.ref t) >>= _) _ _ s
 refine b5 (S0 hol hdl ?_)
 simp only[S8,hx]
 refine b5 (L1 (b5 (V5 ho hd (by simp) ?_)))
 show i5 _ _ (Av (.type "StopIteration") [] >>= _) _ _ _
 refine b5 ?_
 simp only[Av,CC]
 refine b5 (A1 ?_ (by size_fits))
 refine b5 (m:=bM _ _) (CA (a:=A5) (by first|rfl | (simp only[bM];rfl)) ?_)
 refine A1 ?_ (by size_fits)
 simp only[raiseNew]
 refine b5 (xT ?_)
 first|rw[show A.in1.handled=none from hh]|rw[hh]
 exact b5 (d5 (Cz (hE _ _ (((G7 ..).extBut.push _).push _) ⟨_,n5 _ rfl,rfl⟩)))
noncomputable def Ao:Bool->m6->Hp->Addr->List V->Prop
 | false=>bV
 | true=>eA
noncomputable def qH:Bool->Heap->Addr->Array b8->Prop
 | false=>HF
 | true=>Heap.IsList
noncomputable def tu:Bool->Heap->Addr->Addr->Nat->Prop
 | false=>Heap.IsTupleIter
 | true=>Heap.IsListIter
noncomputable def itN:Bool->String
 | false=>"tuple_iterator"
 | true=>"list_iterator"
noncomputable abbrev FL (p:Bool) (t:Addr):Obj:={ cls:=.type (itN p),data:=.fields #[.ref t,.int 0 0] }
variable {h:Heap}{a:Addr}
theorem _root_.PySem.Heap.IsList.at' {h':Heap}{items:Array b8} (x:h.IsList a items) (e:∀o,h.get? a=some o->h'.get? a=some o):h'.IsList a items:=let ⟨o,ho,r⟩:=x;⟨o,e _ ho,r⟩
theorem qH.at {p:Bool}{h h':Heap}{a:Addr}{xs:Array b8} (x:qH p h a xs) (e:∀o,h.get? a=some o->h'.get? a=some o):qH p h' a xs:=by
 cases p
 ·exact Heap.IsTuple.at x e
 ·exact Heap.IsList.at' x e
variable {p:Bool}{xs:Array b8}
theorem qH.lt (x:qH p h a xs):a<h.objs.size:=by
 cases p <;> exact let ⟨_,ho,_⟩:=x;i4 ho
theorem tu.at {p:Bool}{h h':Heap}{a t:Addr}{k:Nat} (x:tu p h a t k) (e:∀o,h.get? a=some o->h'.get? a=some o):tu p h' a t k:=by
 cases p
 ·exact Heap.IsTupleIter.at x e
 ·exact Heap.IsListIter.at x e
variable {k:Nat}
theorem tu.ob {t:Addr}(x:tu p h a t k):∃o,h.get? a=some o/\o.data=.fields #[.ref t,.int k 0]:=by
 cases p <;> exact let ⟨o,ho,_,hd⟩:=x;⟨o,ho,hd⟩
theorem tu.new {t:Addr} (e:h.get? a=some (FL p t)):tu p h a t 0:=by
 cases p <;> exact ⟨_,e,rfl,rfl⟩
theorem lD {t:Addr}{x:b8}(hit:tu p s.heap it t i) (ht:qH p s.heap t its) (hx:its[i]?=some x)
  (hQ:∀h',tu p h' it t (i+1)->D0 it s.heap h'->Q x { s with heap:=h' }):i5 (n0 prog w) A (C3 (.ref it)) Q E s:=by
 cases p
 ·exact lC hit ht hx hQ
 ·exact wpAny_nextOf_list_item hit ht hx hQ
theorem xp {t:Addr}(hh:A.handled=none) (hit:tu p s.heap it t i) (ht:qH p s.heap t its) (hx:its[i]?=none)
  (hE:∀h' e,gI it s.heap h'->(∃o,h'.get? e=some o/\o.cls=.type "StopIteration")->E (.ref e) { s with heap:=h' }):i5 (n0 prog w) A (C3 (.ref it)) Q E s:=by
 cases p
 ·exact nh hh hit ht hx hE
 ·exact wpAny_nextOf_list_end hh hit ht hx hE
theorem Cr {t:Addr}(ht:qH p s.heap t xs) (h:Q (.ref s.heap.objs.size) { s with heap:=s.heap.push (FL p t) }):i5 (n0 prog w) A (jN (.ref t)) Q E s:=by
 cases p
 ·exact X8 ht h
 ·exact nK ht h
structure xI (p q:Bool) (h:Heap) (z TI TO i1 i2 t1 t2:Addr) (k:Nat):Prop where
 zz:wN h z TI TO .none
 ti:mq h TI (.ref i1) (.ref i2)
 tO:∃a b,mq h TO a b
 it1:tu p h i1 t1 k
 it2:tu q h i2 t2 k
structure vb (z TI TO i1 i2 t1 t2:Addr):Prop where
 a1:TI≠z
 a2:TO≠z
 a3:i1≠z
 a4:i2≠z
 b1:TI≠TO
 b2:TI≠i1
 b3:TI≠i2
 c1:TO≠i1
 c2:TO≠i2
 d1:i1≠i2
 e1:t1≠z
 e2:t1≠TO
 e3:t1≠i1
 e4:t1≠i2
 f1:t2≠z
 f2:t2≠TO
 f3:t2≠i1
 f4:t2≠i2
variable {n:Nat}
theorem cS {a b:Nat} (h:a≠b):n+a≠n+b:=by lia
theorem jJ {a t:Nat} (h:t<n):t≠n+a:=by lia
theorem vb.new {t1 t2:Nat} (h1:t1<n) (h2:t2<n):vb (n+4) (n+2) (n+3) n (n+1) t1 t2 where
 a1:=cS (by decide)
 a2:=cS (by decide)
 a3:=cS (n:=n) (a:=0) (by decide)
 a4:=cS (by decide)
 b1:=cS (by decide)
 b2:=cS (n:=n) (b:=0) (by decide)
 b3:=cS (by decide)
 c1:=cS (n:=n) (b:=0) (by decide)
 c2:=cS (by decide)
 d1:=cS (n:=n) (a:=0) (by decide)
 e1:=jJ h1
 e2:=jJ h1
 e3:=jJ (a:=0) h1
 e4:=jJ h1
 f1:=jJ h2
 f2:=jJ h2
 f3:=jJ (a:=0) h2
 f4:=jJ h2
variable {q:Bool}{t1 t2:Addr}
theorem wQ {z TI TO i1 i2:Addr}{ys:Array b8}{x y:b8}{Q:Option b8->b9->Prop} (D:vb z TI TO i1 i2 t1 t2) (Z:xI p q s.heap z TI TO i1 i2 t1 t2 k) (hl1:qH p s.heap t1 xs) (hl2:qH q s.heap t2 ys)
  (hx:xs[k]?=some x) (hy:ys[k]?=some y)
  (hQ:∀h',wN h' z TI TO (V7 s.heap.objs.size)->mq h' TO x y->tu p h' i1 t1 (k+1)->tu q h' i2 t2 (k+1)->mq h' s.heap.objs.size x y->h'.objs.size=s.heap.objs.size+1 ->
   (∀c o,c ∉ [z,TO,i1,i2]->s.heap.get? c=some o->h'.get? c=some o)->Q (some (.ref s.heap.objs.size)) { s with heap:=h' }):
  i5 (n0 prog w) A (ah (.ref z)) Q E s:=by
 obtain ⟨hz,hTI,⟨a,b,hTO⟩,h1,h2⟩:=Z
 have hT:s.TypeIs (.ref z) "zip":=⟨_,hz,rfl⟩
 unfold ah
 refine b5 (U5 (A4 (name:=O1 "__next__") hT gJ (y6 gJ hT Fq ?_ (EG _))))
 show i5 _ _ (lU (.ref z) 2 >>= _) _ _ _
 refine b5 (y4 hz rfl (x:=.bool false) rfl ?_)
 show i5 _ _ (lU (.ref z) 3 >>= _) _ _ _
 refine b5 (y4 hz rfl (x:=.ref TI) rfl (b5 (S0 hTI rfl ?_)))
 show i5 _ _ (D7 (.ref z) >>= _) _ _ _
 refine b5 ?_
 unfold D7
 refine b5 (y4 hz rfl (x:=.none) rfl (d5 ?_))
 simp only[if_true]
 refine b5 (L1 (b5 (y4 hz rfl (x:=.ref TO) rfl (b5 (B1 hz (by simp) fun g1 z1 s1=>?_)))))
 replace z1:wN g1 z TI TO .ellipsis:=z1
 refine b5 ?_
 simp only[lX,CI,W4,Y5]
 refine b5 (b5 (xS ?_))
 show i5 _ _ (C3 (.ref i1) >>= _) _ _ _
 refine b5 (lD (h1.at fun o e=>s1.extBut _ o D.a3 e) (hl1.at fun o e=>s1.extBut _ o D.e1 e) hx fun g2 j1 s2=>d5 ?_)
 have o2:mq g2 TO a b:=s2.extBut _ _ D.c1 (s1.extBut _ _ D.a2 hTO)
 refine b5 (S0 o2 rfl (b5 (Cy o2 fun g3 o3 s3=>?_)))
 replace o3:mq g3 TO x b:=o3
 refine b5 (sT (d5 (b5 (b5 (xS ?_)))))
 show i5 _ _ (C3 (.ref i2) >>= _) _ _ _
 refine b5 (lD (h2.at fun o e=>s3.extBut _ o D.c2.symm (s2.extBut _ o D.d1.symm (s1.extBut _ o D.a4 e))) (hl2.at fun o e=>s3.extBut _ o D.f2 (s2.extBut _ o D.f3 (s1.extBut _ o D.f1 e))) hy fun g4 j2 s4=>d5 ?_)
 have o4:mq g4 TO x b:=s4.extBut _ _ D.c2 o3
 refine b5 (S0 o4 rfl (b5 (Cy o4 fun g5 o5 s5=>?_)))
 replace o5:mq g5 TO x y:=o5
 refine b5 (sT (d5 (d5 ?_)))
 refine b5 (S0 o5 rfl (b5 (eh ?_)))
 have hsz:g5.objs.size=s.heap.objs.size:=by rw[s5.1,s4.1,s3.1,s2.1,s1.1]
 have z5:wN g5 z TI TO .ellipsis:=s5.extBut _ _ D.a2.symm (s4.extBut _ _ D.a4.symm (s3.extBut _ _ D.a2.symm (s2.extBut _ _ D.a3.symm z1)))
 have k5:∀c o,c ∉ [z,TO,i1,i2]->s.heap.get? c=some o->g5.get? c=some o:=fun c o hc e=>by
  simp only[y3,E5,or_false,not_or] at hc
  exact s5.extBut _ _ hc.2.1 (s4.extBut _ _ hc.2.2.2 (s3.extBut _ _ hc.2.1 (s2.extBut _ _ hc.2.2.1 (s1.extBut _ _ hc.1 e))))
 have m1:tu p g5 i1 t1 (k+1):=j1.at fun o e=>s5.extBut _ o D.c1.symm (s4.extBut _ o D.d1 (s3.extBut _ o D.c1.symm e))
 have m2:tu q g5 i2 t2 (k+1):=j2.at fun o e=>s5.extBut _ o D.c2.symm e
 show i5 _ _ (M9 (.ref z) (.ref g5.objs.size) >>= _) _ _ _
 refine b5 ?_
 unfold M9
 have z6:wN (g5.push { cls:=.type "tuple",data:=.seq #[x,y] }) z TI TO .ellipsis:=d6 _ z5
 refine b5 (B1 z6 (by simp) fun g7 z7 s7=>?_)
 replace z7:wN g7 z TI TO (V7 g5.objs.size):=z7
 refine B1 z7 (by simp) fun g8 z8 s8=>?_
 replace z8:wN g8 z TI TO (V7 g5.objs.size):=z8
 have up:∀c o,c≠z->g5.get? c=some o->g8.get? c=some o:=fun c o hc e=>s8.extBut _ _ hc (s7.extBut _ _ hc (d6 _ e))
 have new8:mq g8 g5.objs.size x y:=s8.extBut _ _ (B4 (i4 z5)) (s7.extBut _ _ (B4 (i4 z5)) (n5 _ rfl))
 have size8:g8.objs.size=g5.objs.size+1:=by rw[s8.1,s7.1,C0]
 rw[hsz] at z8 new8 size8
 refine d5 ⟨_,rfl,d5 ?_⟩
 show Q (some (.ref g5.objs.size)) _
 rw[hsz]
 exact hQ g8 z8 (up _ _ D.a2 o5) (m1.at fun o e=>up _ o D.a3 e) (m2.at fun o e=>up _ o D.a4 e) new8 size8 fun c o hc e=>up c o (fun q=>hc (by simp[q])) (k5 c o hc e)
theorem yn {z TI TO i1 i2:Addr}{Q:Option b8->b9->Prop} (hh:A.handled=none) (D:vb z TI TO i1 i2 t1 t2) (Z:xI p q s.heap z TI TO i1 i2 t1 t2 k) (hl1:qH p s.heap t1 xs)
  (hx:xs[k]?=none) (hQ:∀h',(∀c o,c ∉ [z,TO,i1,i2]->s.heap.get? c=some o->h'.get? c=some o)->Q none { s with heap:=h' }):i5 (n0 prog w) A (ah (.ref z)) Q E s:=by
 obtain ⟨hz,hTI,⟨a,b,hTO⟩,h1,h2⟩:=Z
 have hT:s.TypeIs (.ref z) "zip":=⟨_,hz,rfl⟩
 unfold ah
 refine b5 (U5 (A4 (name:=O1 "__next__") hT gJ (y6 gJ hT Fq ?_ (EG _))))
 show i5 _ _ (lU (.ref z) 2 >>= _) _ _ _
 refine b5 (y4 hz rfl (x:=.bool false) rfl ?_)
 show i5 _ _ (lU (.ref z) 3 >>= _) _ _ _
 refine b5 (y4 hz rfl (x:=.ref TI) rfl (b5 (S0 hTI rfl ?_)))
 show i5 _ _ (D7 (.ref z) >>= _) _ _ _
 refine b5 ?_
 unfold D7
 refine b5 (y4 hz rfl (x:=.none) rfl (d5 ?_))
 simp only[if_true]
 refine b5 (L1 (b5 (y4 hz rfl (x:=.ref TO) rfl (b5 (B1 hz (by simp) fun g1 z1 s1=>?_)))))
 replace z1:wN g1 z TI TO .ellipsis:=z1
 refine b5 ?_
 simp only[lX,CI,W4,Y5]
 refine b5 (b5 (xS ?_))
 show i5 _ _ (C3 (.ref i1) >>= _) _ _ _
 refine b5 (xp hh (h1.at fun o e=>s1.extBut _ o D.a3 e) (hl1.at fun o e=>s1.extBut _ o D.e1 e) hx fun g2 e s2 he=>?_)
 obtain ⟨oe,hoe,hce⟩:=he
 have z2:wN g2 z TI TO .ellipsis:=s2 _ _ D.a3.symm z1
 have hez:e≠z:=fun q=>by subst q;rw[z2] at hoe;cases hoe;simp at hce
 refine B1 z2 (by simp) fun g3 _ s3=>?_
 refine b5 (V6 (T:="StopIteration") (b:=true) ⟨oe,s3.extBut _ _ hez hoe,hce⟩ jO (d5 (hQ g3 fun c o hc q=>?_)))
 simp only[y3,E5,or_false,not_or] at hc
 exact s3.extBut _ _ hc.1 (s2 _ _ hc.2.2.1 (s1.extBut _ _ hc.1 q))
noncomputable abbrev Fu (t:Addr):Obj:={ cls:=.type "tuple_iterator",data:=.fields #[.ref t,.int 0 0] }
noncomputable abbrev tpr (a b:b8):Obj:={ cls:=.type "tuple",data:=.seq #[a,b] }
noncomputable abbrev zob (a b:Addr):Obj:={ cls:=.type "zip",data:=.fields #[.none,.bool false,.bool false,.ref a,.ref b] }
noncomputable abbrev Cg (p q:Bool) (h:Heap) (t1 t2:Addr):Heap:=((((h.push (FL p t1)).push (FL q t2)).push (tpr (.ref h.objs.size) (.ref (h.objs.size+1)))).push (tpr .none .none)).push (zob (h.objs.size+2) (h.objs.size+3))
theorem yl (p q:Bool) (t1 t2:Addr) (xs ys:Array b8):
  HC (Z3.«zip.__new__» ⟨[.type "zip",.ref t1,.ref t2],[]⟩) (fun _ R s=>qH p s.heap t1 xs/\qH q s.heap t2 ys/\R (.ok (.ret (.ref (s.heap.objs.size+4)))) { s with heap:=Cg p q s.heap t1 t2 }):=
 .of_wp fun prog w A R s h=>by
  obtain ⟨hp,g,d,tk,os⟩:=s;obtain ⟨hl1,hl2,h⟩:=h
  have hsub:=sub_zip
  have hL1:qH p (ve ⟨hp,g,d,tk,os⟩) t1 xs:=hl1
  have hL2:qH q (ve ⟨hp.push (FL p t1),g,d,tk,os⟩) t2 ys:=hl2.at fun o e=>d6 _ e
  wp_walk using Cr hL1,Cr hL2
  simp only[C0]
  exact ⟨_,rfl,h⟩
theorem xD {ys:Array b8}(hl1:qH p s.heap t1 xs) (hl2:qH q s.heap t2 ys)
  (h:∀h',xI p q h' (s.heap.objs.size+4) (s.heap.objs.size+2) (s.heap.objs.size+3) s.heap.objs.size (s.heap.objs.size+1) t1 t2 0->(∀c o,s.heap.get? c=some o->h'.get? c=some o)->h'.objs.size=s.heap.objs.size+5 ->
   Q (.ref (s.heap.objs.size+4)) { s with heap:=h' }):i5 (n0 prog w) A (call (.type "zip") [.ref t1,.ref t2]) Q E s:=by
 refine callType_new F.called_zip (by decide) (F.typeCall_zip_2 _ _) (F.newCall_zip_2 _ _) (fun obj=>F.args_object_init_3 obj _ _) F.entry_zip_new (yl p q t1 t2 xs ys) ⟨hl1,hl2,?_⟩
 have up:∀{b:Addr}{o:Obj} (h0:Heap) (x:Obj),h0.get? b=some o->(h0.push x).get? b=some o:=fun _ _ e=>d6 _ e
 have here:∀(h0:Heap) (x:Obj) (n:Nat),x.isFreed=false->h0.objs.size=n->(h0.push x).get? n=some x:=fun h0 x n hf e=>by subst e;exact n5 _ hf
 have Z:xI p q (Cg p q s.heap t1 t2) (s.heap.objs.size+4) (s.heap.objs.size+2) (s.heap.objs.size+3) s.heap.objs.size (s.heap.objs.size+1) t1 t2 0 :=
  ⟨here _ _ _ rfl (by simp only[C0]),up _ _ (up _ _ (here _ _ _ rfl (by simp only[C0]))),⟨_,_,up _ _ (here _ _ _ rfl (by simp only[C0]))⟩,
   .new (up _ _ (up _ _ (up _ _ (up _ _ (here _ _ _ rfl rfl))))),.new (up _ _ (up _ _ (up _ _ (here _ _ _ rfl (by simp only[C0])))))⟩
 exact ⟨⟨_,Z.zz,rfl⟩,h _ Z (fun c o e=>up _ _ (up _ _ (up _ _ (up _ _ (up _ _ e))))) (by simp only[C0])⟩
end
section
variable {X:Cx}{pins:List (Addr × Obj)}{σ:St}{H:Hp}{s:b9}
theorem A9.turnedL {h':Heap}{t':Nat}{ch:List Addr} (I:A9 X pins σ H s) (k:∀b o,b ∉ ch->s.heap.get? b=some o->h'.get? b=some o) (hf:∀b∈ch,jX X pins H b):A9 X pins σ H { s with heap:=h',toks:=t' }:=by
 have nit:∀b u,H b=some u->b ∉ ch:=fun b u e z=>by rw[(hf b z).1] at e;cases e
 refine I.step (g':=s.gens) (d':=s.drawn) (ch:=ch) (fun b hb=>⟨(hf b hb).2.2.2.1,(hf b hb).2.1,(hf b hb).2.2.2.2.1,(hf b hb).2.2.2.2.2⟩) (fun b o _ _ hc e _=>k b o hc e) (fun b o _ _ hc e _=>⟨o.slots,k b o hc e⟩) (fun _ _ _ _ n=>n)
  (fun b o hc e=>⟨o,k b o hc e⟩) (fun _ _ e=>e) (fun _ _ _ e=>e) (fun b ps e=>⟨#[],by rw[e];simp⟩) (fun m hm=>?_) (fun b u e=>?_) I.bare
 ·obtain ⟨o,es,ep,ho,r⟩:=hm
  exact ⟨o,es,ep,k _ o (fun z=>(hf _ z).2.1 rfl) ho,r⟩
 ·refine (I.hok b u e).stay (fun c v hc q=>k c v ?_ q) (fun _ q=>q) fun _ _ q=>q
  rcases hc with z|z
  ·rw[z];exact nit b u e
  ·exact nit c _ z
variable {p:Bool}{a:Addr}{xs:List V}
theorem A9.sqB (I:A9 X pins σ H s) (h:Ao p X.K H a xs):∃its:List b8,J2 xs its/\qH p s.heap a its.toArray:=by
 cases p
 ·exact let ⟨its,r,e,_⟩:=I.tuple h;⟨its,r,e⟩
 ·exact let ⟨its,r,e,_⟩:=I.list h;⟨its,r,e.isList⟩
theorem A9.sqB_inj {ys:List V} (I:A9 X pins σ H s) (h:Ao p X.K H a xs) (h':Ao p X.K H a ys):xs=ys:=by
 cases p
 ·exact I.tuple_inj h h'
 ·exact I.list_inj h h'
noncomputable def ItzB (p q:Bool) (K:m6) (a b:Addr):It :=
 ⟨fun i H=>∃xs ys x y,Ao p K H a xs/\Ao q K H b ys/\xs[i]?=some x/\ys[i]?=some y,fun i H v H'=>∃r x y,H r=none/\v=.ref r/\H'=v8 H r (.tup [x,y])/\(∀xs,Ao p K H a xs->xs[i]?=some x)/\∀ys,Ao q K H b ys->ys[i]?=some y,
  fun i H=>∃xs,Ao p K H a xs/\xs.length<=i⟩
variable {es:List Expr}{kk:Nat}
theorem wR {q:Bool}{P:f6}{w:j6}{K:m6}{pos:Pos}{b z TI TO i1 i2:Addr} (D:vb z TI TO i1 i2 a b):
  qt P w K (.Tuple es kk pos) (ItzB p q K a b) [z,TI,TO,i1,i2] z (fun i h=>xI p q h z TI TO i1 i2 a b i) where
 mem:=by simp
 obj:=fun i h st c hc=>by
  obtain ⟨hz,hTI,⟨_,_,hTO⟩,h1,h2⟩:=st
  obtain ⟨_,h1,d1⟩:=h1.ob
  obtain ⟨_,h2,d2⟩:=h2.ob
  simp only[y3,E5,or_false] at hc
  rcases hc with rfl|rfl|rfl|rfl|rfl
  ·exact ⟨_,hz,fun v q=>by cases q⟩
  ·exact ⟨_,hTI,fun v q=>by cases q⟩
  ·exact ⟨_,hTO,fun v q=>by cases q⟩
  ·exact ⟨_,h1,fun v q=>by rw[d1] at q;cases q⟩
  ·exact ⟨_,h2,fun v q=>by rw[d2] at q;cases q⟩
 keep:=fun i h h' st k=>by
  obtain ⟨hz,hTI,⟨_,_,hTO⟩,h1,h2⟩:=st
  exact ⟨k _ (by simp) _ hz,k _ (by simp) _ hTI,⟨_,_,k _ (by simp) _ hTO⟩,h1.at fun o e=>k _ (by simp) o e,h2.at fun o e=>k _ (by simp) o e⟩
 item:=by
  intro X hP hw hK hc i pins s σ H E I hf st hg
  subst hP hw hK
  obtain ⟨xs,ys,x,y,ha,hb,hx,hy⟩:=hg
  obtain ⟨its,r1,p1⟩:=I.sqB ha
  obtain ⟨its2,r2,p2⟩:=I.sqB hb
  obtain ⟨u,hu,ru⟩:=r1.get hx
  obtain ⟨v,hv,rv⟩:=r2.get hy
  refine wQ D st p1 p2 (x:=u) (y:=v) (by simpa using hu) (by simpa using hv) fun h' z1 o1 j1 j2 new sz keep=>?_
  refine ⟨_,rfl,wpAny_letOwnedTupleGo_zip (s:={ s with heap:=h' }) z1 fun h2 z2 sb=>?_⟩
  have hn:H s.heap.objs.size=none:=I.hok.fresh (d9 _)
  have zlt:z<s.heap.objs.size:=i4 st.zz
  have k2:∀c o,c ∉ [z,TI,TO,i1,i2]->s.heap.get? c=some o->h2.get? c=some o:=fun c o hc e=>by
   simp only[y3,E5,or_false,not_or] at hc
   exact sb.extBut _ _ hc.1 (keep c o (by simp only[y3,E5,or_false,not_or];exact ⟨hc.1,hc.2.2.1,hc.2.2.2.1,hc.2.2.2.2⟩) e)
  have e0:h2.get? s.heap.objs.size=some { cls:=.type "tuple",data:=.seq #[u,v] }:=sb.extBut _ _ (B4 zlt) new
  have pne:∀c o,s.heap.get? c=some o->c≠s.heap.objs.size:=fun c o e=>q9 (i4 e)
  have nit:∀c u,H c=some u->c ∉ [z,TI,TO,i1,i2]:=fun c u e q=>by rw[(hf c q).1] at e;cases e
  have hok:cW X.prog X.w (v8 H s.heap.objs.size (.tup [x,y])) h2:=fun c ob e=>by
   by_cases hq:c=s.heap.objs.size
   ·subst hq
    rw[i6] at e;cases e
    exact ⟨by show 2<=i8;decide,[u,v],.cons ru (.cons rv .nil),⟨_,e0,rfl,_,rfl⟩⟩
   ·rw[A3 hq] at e
    refine (I.hok c ob e).stay (fun d w' hd q=>k2 d w' ?_ q) (fun d q=>by rw[A3 (u3 q hn)];exact q) fun d xs q=>by rw[A3 (u3 q hn)];exact q
    rcases hd with rfl|hd
    ·exact nit d ob e
    ·exact nit d _ hd
  have I2:A9 X pins σ (v8 H s.heap.objs.size (.tup [x,y])) { s with heap:=h2 }:=by
   refine I.step (g':=s.gens) (d':=s.drawn) (t':=s.toks) (ch:=[z,TI,TO,i1,i2]) (fun c hc=>⟨(hf c hc).2.2.2.1,(hf c hc).2.1,(hf c hc).2.2.2.2.1,(hf c hc).2.2.2.2.2⟩) (fun c o _ _ hc e _=>k2 c o hc e) (fun c o _ _ hc e _=>⟨o.slots,k2 c o hc e⟩)
    (fun c o _ e n=>by rw[A3 (pne c o e)];exact n) (fun c o hc e=>⟨o,k2 c o hc e⟩) (fun c xs e=>by rw[A3 (u3 e hn)];exact e) (fun c o u e=>by rw[A3 (u3 e hn)];exact e) (fun c ps e=>⟨#[],by rw[A3 (u3 e hn),e];simp⟩) (fun m hm=>?_) hok I.bare
   obtain ⟨o,es,ep,ho,r⟩:=hm
   exact ⟨o,es,ep,k2 _ o (fun q=>(hf _ q).2.1 rfl) ho,r⟩
  refine ⟨.ref s.heap.objs.size,_,I2,rfl,⟨_,x,y,hn,rfl,rfl,fun xs' h'=>by rw[I.sqB_inj h' ha];exact hx,fun ys' h'=>by rw[I.sqB_inj h' hb];exact hy⟩,?_,fun c hc=>?_⟩
  ·exact ⟨z2,sb.extBut _ _ D.a1 (keep _ _ (by simp only[y3,E5,or_false,not_or];exact ⟨D.a1,D.b1,D.b2,D.b3⟩) st.ti),⟨_,_,sb.extBut _ _ D.a2 o1⟩,j1.at fun o e=>sb.extBut _ o D.a3 e,j2.at fun o e=>sb.extBut _ o D.a4 e⟩
  ·have hlt:c<s.heap.objs.size:=by
    obtain ⟨hz,hTI,⟨_,_,hTO⟩,h1,h2⟩:=st
    obtain ⟨_,h1,_⟩:=h1.ob
    obtain ⟨_,h2,_⟩:=h2.ob
    simp only[y3,E5,or_false] at hc
    rcases hc with rfl|rfl|rfl|rfl|rfl
    ·exact i4 hz
    ·exact i4 hTI
    ·exact i4 hTO
    ·exact i4 h1
    ·exact i4 h2
   rw[A3 (q9 hlt)]
   exact (hf c hc).1
 done:=by
  intro X hP hw hK hc i pins s σ H E I hf st hg
  subst hP hw hK
  obtain ⟨xs,ha,hx⟩:=hg
  obtain ⟨its,r1,p1⟩:=I.sqB ha
  have hl:=r1.length
  refine yn (I.ok.hd hc) D st p1 (by simp;lia) fun h' keep=>⟨rfl,I.turnedL (t':=s.toks) (ch:=[z,TI,TO,i1,i2]) (fun c o hc e=>keep c o (fun q=>hc ?_) e) hf⟩
  simp only[y3,E5,or_false] at q ⊢
  rcases q with q|q|q|q
  ·exact .inl q
  ·exact .inr (.inr (.inl q))
  ·exact .inr (.inr (.inr (.inl q)))
  ·exact .inr (.inr (.inr (.inr q)))
 self:=fun _ _ _ _ _ st h=>HR st.zz h
theorem ym {q:Bool}{R:It->Hp->Prop}{J:It}{pt:Pos}{b:Addr}{ys:List V} (I:A9 X pins σ H s) (hx:Ao p X.K H a xs) (hy:Ao q X.K H b ys)
  (T:∀{z TI TO i1 i2:Addr},vb z TI TO i1 i2 a b->qt X.prog X.w X.K (.Tuple es kk pt) J [z,TI,TO,i1,i2] z (fun i h=>xI p q h z TI TO i1 i2 a b i)) (h:R J H):
  i5 (n0 X.prog X.w) X.A (call (.type "zip") [.ref a,.ref b]) (fun v s1=>i5 (n0 X.prog X.w) X.A (jN v) (HN X pins σ (.Tuple es kk pt) R) X.xe s1) X.xe s:=by
 obtain ⟨its,r1,p1⟩:=I.sqB hx
 obtain ⟨its2,r2,p2⟩:=I.sqB hy
 refine xD p1 p2 fun h' Z keep sz=>?_
 refine HR (s:={ s with heap:=h' }) Z.zz ?_
 have I2:A9 X pins σ H { s with heap:=h' }:=I.kept (t':=s.toks) keep
 refine ⟨s.heap.objs.size+4,[s.heap.objs.size+4,s.heap.objs.size+2,s.heap.objs.size+3,s.heap.objs.size,s.heap.objs.size+1],_,_,H,rfl,I2,T (vb.new p1.lt p2.lt),Z,fun c hc=>?_,h⟩
 have hge:s.heap.objs.size<=c:=by
  simp only[y3,E5,or_false] at hc
  rcases hc with rfl|rfl|rfl|rfl|rfl <;> first|exact u9 _ _|exact d9 _
 exact I.fpOk hge (I.hok.fresh hge)
theorem Be {D:List V->Hp->(It->Hp->Prop)->Prop}{e1 e2:Expr}{pt p pos:Pos}{ta:TA} (hg:Gl X "zip") (hm:X.mg "zip"=none) (ha:PA X [e1,e2] ta)
  (hD:∀{pins s σ H vs R},A9 X pins σ H s->D vs H R->∃a b,vs=[V.ref a,V.ref b]/\i5 (n0 X.prog X.w) X.A (call (.type "zip") [.ref a,.ref b]) (fun v s1=>i5 (n0 X.prog X.w) X.A (jN v) (HN X pins σ (.Tuple es kk pt) R) X.xe s1) X.xe s)
  (hs:B5 [e1,e2] X.env=[(false,eval e1 X.env),(false,eval e2 X.env)]) (hs2:B5 [e2] X.env=[(false,eval e2 X.env)]):
  PI X (.Tuple es kk pt) (.Call (.Name "zip" p) [e1,e2] [] pos) (fun σ H R=>ta σ H fun vs H1=>D vs H1 R):=by
 intro pins s σ H R I h
 refine Call_ (jo I hg hm boot_zip (U6 (R4 (ha pos pins s σ H _ I h) fun us s1 ⟨vs,H1,I1,r1,q1⟩=>?_) (by rw[hs,hs2]) (by rw[hs2];rfl)))
 obtain ⟨a,b,rfl,q⟩:=hD I1 q1
 cases r1 with
 | cons ra rr =>
  cases rr with
  | cons rb rr =>
   cases rr
   cases ra
   cases rb
   exact q
end
section
variable {X:Cx}
noncomputable def Itz (K:m6) (a b:Addr):It :=
 ⟨fun i H=>∃xs ys x y,bV K H a xs/\bV K H b ys/\xs[i]?=some x/\ys[i]?=some y,fun i H v H'=>∃p x y,H p=none/\v=.ref p/\H'=v8 H p (.tup [x,y])/\(∀xs,bV K H a xs->xs[i]?=some x)/\∀ys,bV K H b ys->ys[i]?=some y,
  fun i H=>∃xs,bV K H a xs/\xs.length<=i⟩
noncomputable def iZip (K:m6) (ta:TA):TI:=fun σ H R=>ta σ H fun vs H1=>∃a b xs ys,vs=[.ref a,.ref b]/\bV K H1 a xs/\bV K H1 b ys/\R (Itz K a b) H1
theorem yT {e1 e2:Expr}{es:List Expr}{kk:Nat}{pt p pos:Pos}{ta:TA} (hg:Gl X "zip") (hm:X.mg "zip"=none) (ha:PA X [e1,e2] ta) (hs:B5 [e1,e2] X.env=[(false,eval e1 X.env),(false,eval e2 X.env)]:=by rfl) (hs2:B5 [e2] X.env=[(false,eval e2 X.env)]:=by rfl):
  PI X (.Tuple es kk pt) (.Call (.Name "zip" p) [e1,e2] [] pos) (iZip X.K ta):=
 Be hg hm ha (fun I ⟨_,_,_,_,e,hx,hy,h⟩=>⟨_,_,e,ym (p:=false) (q:=false) I hx hy (fun D=>wR D) h⟩) hs hs2
end
mutual
noncomputable def Dt (st:Addr) (H:Hp):w6->V->Prop
 | .none,v=>v=.non
 | .bool b,v=>v=.bl b
 | .int i,v=>v=.int i
 | .str x,v=>v=.str x
 | .tuple ds,v=>∃a xs,v=.ref a/\a≠st/\H a=some (.tup xs)/\Q6 st H ds xs
 | .list ds,v=>∃a xs,v=.ref a/\a≠st/\H a=some (.lst xs)/\Q6 st H ds xs
 | .dict _,v=>∃a ks,v=.ref a/\a≠st/\H a=some (.dK ks)
noncomputable def Q6 (st:Addr) (H:Hp):List w6->List V->Prop
 | [],xs=>xs=[]
 | d::ds,xs=>∃x r,xs=x::r/\Dt st H d x/\Q6 st H ds r
end
noncomputable def Kp (st:Addr) (H H':Hp):Prop:=∀b o,b≠st->H b=some o->H' b=some o
theorem Kp.refl (st:Addr) (H:Hp):Kp st H H:=fun _ _ _ e=>e
variable {st:Addr}
theorem Kp.trans {H1 H2:Hp} (a:Kp st H H1) (b:Kp st H1 H2):Kp st H H2:=fun c o n e=>b c o n (a c o n e)
theorem j4.kp (a:j4 H H') (st:Addr):Kp st H H':=fun b o _ e=>a b o e
variable {o:HO}
theorem j4.new {p:Addr}(h:H p=none):j4 H (v8 H p o):=fun b u q=>by rw[A3 (u3 q h)];exact q
theorem Kp.new {st:Addr}{H:Hp}{p:Addr}{o:HO} (h:H p=none):Kp st H (v8 H p o):=(j4.new h).kp st
theorem Kp.at :Kp st H (v8 H st o):=fun b u n q=>by rw[A3 n];exact q
mutual
theorem Dt.kp {st:Addr}{H H':Hp} (k:Kp st H H'):∀{d:w6}{v:V},Dt st H d v->Dt st H' d v
 | .none,_,h=>by unfold Dt at h ⊢;exact h
 | .bool _,_,h=>by unfold Dt at h ⊢;exact h
 | .int _,_,h=>by unfold Dt at h ⊢;exact h
 | .str _,_,h=>by unfold Dt at h ⊢;exact h
 | .tuple ds,_,h=>by
  unfold Dt at h ⊢
  obtain ⟨a,xs,e,n,q,r⟩:=h
  exact ⟨a,xs,e,n,k a _ n q,Q6.kp k r⟩
 | .list ds,_,h=>by
  unfold Dt at h ⊢
  obtain ⟨a,xs,e,n,q,r⟩:=h
  exact ⟨a,xs,e,n,k a _ n q,Q6.kp k r⟩
 | .dict kvs,_,h=>by
  unfold Dt at h ⊢
  obtain ⟨a,ks,e,n,q⟩:=h
  exact ⟨a,ks,e,n,k a _ n q⟩
theorem Q6.kp {st:Addr}{H H':Hp} (k:Kp st H H'):∀{ds:List w6}{xs:List V},Q6 st H ds xs->Q6 st H' ds xs
 | [],_,h=>by unfold Q6 at h ⊢;exact h
 | d::ds,_,h=>by
  unfold Q6 at h ⊢
  obtain ⟨x,r,e,q1,q2⟩:=h
  exact ⟨x,r,e,Dt.kp k q1,Q6.kp k q2⟩
end
theorem Dt.int (st:Addr) (H:Hp) (i:Int):Dt st H (.int i) (.int i):=by unfold Dt;rfl
theorem Dt.tup {st:Addr}{H:Hp}{a:Addr}{xs:List V}{ds:List w6} (n:a≠st) (h:H a=some (.tup xs)) (r:Q6 st H ds xs):Dt st H (.tuple ds) (.ref a):=by unfold Dt;exact ⟨a,xs,rfl,n,h,r⟩
theorem Dt.lst {st:Addr}{H:Hp}{a:Addr}{xs:List V}{ds:List w6} (n:a≠st) (h:H a=some (.lst xs)) (r:Q6 st H ds xs):Dt st H (.list ds) (.ref a):=by unfold Dt;exact ⟨a,xs,rfl,n,h,r⟩
theorem Q6.nil (st:Addr) (H:Hp):Q6 st H [] []:=by unfold Q6;rfl
theorem Q6.cons {st:Addr}{H:Hp}{d:w6}{ds:List w6}{x:V}{xs:List V} (h:Dt st H d x) (r:Q6 st H ds xs):Q6 st H (d::ds) (x::xs):=by unfold Q6;exact ⟨x,xs,rfl,h,r⟩
theorem Q6.uncons {d:w6}{ds:List w6}{xs:List V} (h:Q6 st H (d::ds) xs):∃x r,xs=x::r/\Dt st H d x/\Q6 st H ds r:=by unfold Q6 at h;exact h
theorem Q6.len {st:Addr}{H:Hp}:∀{ds:List w6}{xs:List V},Q6 st H ds xs->ds.length=xs.length
 | [],_,h=>by unfold Q6 at h;subst h;rfl
 | d::ds,_,h=>by
  obtain ⟨x,r,e,_,q⟩:=h.uncons
  subst e
  rw[p4,p4,Q6.len q]
theorem Q6.append {st:Addr}{H:Hp}:∀{ds es:List w6}{xs ys:List V},Q6 st H ds xs->Q6 st H es ys->Q6 st H (ds++es) (xs++ys)
 | [],_,_,_,h,q=>by unfold Q6 at h;subst h;exact q
 | d::ds,_,_,_,h,q=>by
  obtain ⟨x,r,e,h1,h2⟩:=h.uncons
  subst e
  exact Q6.cons h1 (Q6.append h2 q)
theorem Q6.get {st:Addr}{H:Hp}:∀{ds:List w6}{xs:List V}{i:Nat}{x:V},Q6 st H ds xs->xs[i]?=some x->∃d,ds[i]?=some d/\Dt st H d x
 | [],_,i,x,h,e=>by unfold Q6 at h;subst h;simp at e
 | d::ds,_,0,x,h,e=>by
  obtain ⟨y,r,e1,h1,h2⟩:=h.uncons
  subst e1
  simp at e;subst e
  exact ⟨d,rfl,h1⟩
 | d::ds,_,i+1,x,h,e=>by
  obtain ⟨y,r,e1,h1,h2⟩:=h.uncons
  subst e1
  obtain ⟨d',e2,h3⟩:=Q6.get (i:=i) (x:=x) h2 (by simpa using e)
  exact ⟨d',by simpa using e2,h3⟩
theorem Q6.ints (st:Addr) (H:Hp):∀ns:List Int,Q6 st H (ns.map E8) (ns.map V.int)
 | []=>Q6.nil st H
 | n::ns=>Q6.cons (Dt.int st H n) (Q6.ints st H ns)
theorem Q6.ints_eq {st:Addr}{H:Hp}:∀{ns:List Int}{xs:List V},Q6 st H (ns.map E8) xs->xs=ns.map V.int
 | [],_,h=>by unfold Q6 at h;exact h
 | n::ns,_,h=>by
  rw[j8] at h
  obtain ⟨x,r,e,h1,h2⟩:=h.uncons
  unfold Dt at h1
  rw[e,h1,Q6.ints_eq h2,j8]
noncomputable abbrev DI (ns:List Int):w6:=.tuple (ns.map .int)
theorem Dt.di {v:V} (h:Dt st H (DI ns) v):∃a,v=.ref a/\a≠st/\H a=some (.tup (ns.map V.int)):=by
 unfold DI Dt at h
 obtain ⟨a,xs,e,n,q,r⟩:=h
 exact ⟨a,e,n,by rw[q,r.ints_eq]⟩
theorem Dt.mkI (n:a≠st) (h:H a=some (.tup (ns.map V.int))):Dt st H (DI ns) (.ref a):=Dt.tup n h (Q6.ints st H ns)
mutual
theorem Dt.reads {P:f6}{w:j6}{st:Addr}{H:Hp}{h:Heap} (ok:cW P w H h):∀{d:w6}{v:V}{u:b8},d.canLay0=true->Dt st H d v->J3 v u->∃as,Reads h u d as
 | .none,_,u,_,q,r=>by unfold Dt at q;subst q;cases r;exact ⟨[],.none⟩
 | .bool b,_,u,_,q,r=>by unfold Dt at q;subst q;cases r;exact ⟨[],.bool b⟩
 | .int i,_,u,_,q,r=>by unfold Dt at q;subst q;obtain ⟨t,rfl⟩:=r;exact ⟨[],.int i t⟩
 | .str x,_,u,_,q,r=>by unfold Dt at q;subst q;obtain ⟨t,rfl⟩:=r;exact ⟨[],.str x t⟩
 | .tuple ds,_,u,cl,q,r=>by
  unfold J7 at cl
  unfold Dt at q
  obtain ⟨a,xs,e,n,hq,rs⟩:=q
  subst e
  cases r
  obtain ⟨_,its,rv,o,ho,hc,m,hd⟩:=ok a _ hq
  obtain ⟨as,ra⟩:=Q6.reads ok cl rs rv
  exact ⟨as,.tuple ho hc hd (by simpa using ra)⟩
 | .list ds,_,u,cl,q,r=>by
  unfold J7 at cl
  unfold Dt at q
  obtain ⟨a,xs,e,n,hq,rs⟩:=q
  subst e
  cases r
  obtain ⟨_,its,m,rv,ho⟩:=ok a _ hq
  obtain ⟨as,ra⟩:=Q6.reads ok cl rs rv
  exact ⟨a::as,.list ho rfl rfl (by simpa using ra)⟩
 | .dict kvs,_,u,cl,q,r=>by unfold J7 at cl;cases cl
theorem Q6.reads {P:f6}{w:j6}{st:Addr}{H:Hp}{h:Heap} (ok:cW P w H h):∀{ds:List w6}{xs:List V}{us:List b8},E6 ds=true->Q6 st H ds xs->J2 xs us->∃as,ReadsAll h us ds as
 | [],_,us,_,q,r=>by unfold Q6 at q;subst q;cases r;exact ⟨[],.nil⟩
 | d::ds,_,us,cl,q,r=>by
  unfold E6 at cl
  rw[u7] at cl
  obtain ⟨x,rr,e,h1,h2⟩:=q.uncons
  subst e
  cases r with
  | cons r1 r2 =>
   obtain ⟨as,ra⟩:=Dt.reads ok cl.1 h1 r1
   obtain ⟨bs,rb⟩:=Q6.reads ok cl.2 h2 r2
   exact ⟨as++bs,.cons ra rb⟩
end
theorem dM {d:w6} (h:S1 d=true):d.canLay0=true:=by
 unfold S1 at h
 rw[u7] at h
 exact h.1
section
variable {X:Cx}
noncomputable def FY:R2:=fun x y H Q=>∃st d e,Dt st H d x/\Dt st H e y/\S1 d=true/\S1 e=true/\Q (.bl (aq d e)) H
noncomputable def Dy:R2:=fun x y H Q=>∃st d e,Dt st H d x/\Dt st H e y/\S1 d=true/\S1 e=true/\Q (.bl (!PyData.eqv d e)) H
theorem zd (hu:X.A.units+64<R8):iA X (P5 .Eq) FY:=by
 intro pins s σ H x y v u Q I rx ry h
 obtain ⟨st,d,e,h1,h2,s1,s2,q⟩:=h
 obtain ⟨as,ra⟩:=h1.reads I.hok (dM s1) rx
 obtain ⟨bs,rb⟩:=h2.reads I.hok (dM s2) ry
 exact eq_dataH ra rb s1 s2 hu (J5 I q rfl)
theorem oZ (hu:X.A.units+64<R8):iA X (P5 .NotEq) Dy:=by
 intro pins s σ H x y v u Q I rx ry h
 obtain ⟨st,d,e,h1,h2,s1,s2,q⟩:=h
 obtain ⟨as,ra⟩:=h1.reads I.hok (dM s1) rx
 obtain ⟨bs,rb⟩:=h2.reads I.hok (dM s2) ry
 exact ne_dataH ra rb s1 s2 hu (J5 I q rfl)
noncomputable def Ft:w6->String
 | .none=>"NoneType"
 | .bool _=>"bool"
 | .int _=>"int"
 | .str _=>"str"
 | .list _=>"list"
 | .tuple _=>"tuple"
 | .dict _=>"dict"
theorem Dt.ty {K:m6}{st:Addr}{H:Hp}{d:w6}{v:V} (h:Dt st H d v):jw K H v (.type (Ft d)):=by
 cases d with
 | none=>unfold Dt at h;subst h;exact .non
 | bool b=>unfold Dt at h;subst h;exact .bl b
 | int i=>unfold Dt at h;subst h;exact .int i
 | str x=>unfold Dt at h;subst h;exact .str x
 | list ds=>unfold Dt at h;obtain ⟨a,xs,e,_,q,_⟩:=h;subst e;exact .lst q
 | tuple ds=>unfold Dt at h;obtain ⟨a,xs,e,_,q,_⟩:=h;subst e;exact .tup q
 | dict kvs=>unfold Dt at h;obtain ⟨a,ks,e,_,q⟩:=h;subst e;exact .dK q
noncomputable def BC:w6->Bool
 | .bool _=>true
 | _=>false
noncomputable def DS:w6->Bool
 | .bool _=>true
 | .int _=>true
 | _=>false
noncomputable def DQ:w6->Bool
 | .tuple _=>true
 | _=>false
theorem zF (K:m6) (d:w6):iL K (.type (Ft d)) (.type "bool")=some (BC d):=by cases d <;> kernel_rfl
theorem BA (K:m6) (d:w6):iL K (.type (Ft d)) (.type "int")=some (DS d):=by cases d <;> kernel_rfl
theorem vV (K:m6) (d:w6):iL K (.type (Ft d)) (.type "tuple")=some (DQ d):=by cases d <;> kernel_rfl
theorem iw {T:String}{f:w6->Bool} (hk:∀K d,iL K (.type (Ft d)) (.type T)=some (f d)):
  Z0 X (.builtin "isinstance") (fun xs H Q=>∃x st d,xs=[x,.ty T]/\Dt st H d x/\Q (.bl (f d)) H):=by
 intro pins s σ H xs us Q I r h
 obtain ⟨x,st,d,rfl,hd,q⟩:=h
 cases r with
 | cons r1 rr =>
  cases rr with
  | cons r2 rr =>
   cases rr
   cases r2
   exact xw I r1 (hd.ty (K:=X.K)) (hk X.K d) fun tk=>⟨.bl (f d),H,I.tok tk,rfl,q⟩
theorem ic:iA X (V9 .FloorDiv) (rI (fun _ j=>0<j/\j.natAbs.log2<9000) fun i j=>.int (i / j)):=EJ fun i j _ _ _ _ _ hc q =>
 floordiv_int (by have:=hc.1;lia) (by rw[qK i (by have:=hc.1;lia)];exact q) (.inl (PyProof.noPylong_of_log2 hc.2))
theorem aZ:iA X (V9 .Mult) (rI (fun i j=>t9 i<=2 ^ 20/\t9 j<=2 ^ 20) fun i j=>.int (i*j)):=EJ fun _ _ _ _ _ _ _ hc q=>mul_int q (.of_bits hc.1 hc.2)
noncomputable def Gb (K:m6):R2:=fun x y H Q=>∃a b xs ys,x=.ref a/\y=.ref b/\bV K H a xs/\bV K H b ys/\xs.length+ys.length<=i8 /\
 (xs=[]->Q (.ref b) H)/\(xs≠[]->ys=[]->Q (.ref a) H)/\(xs≠[]->ys≠[]->∀p,H p=none->Q (.ref p) (v8 H p (.tup (xs++ys))))
theorem Bn:iA X (V9 .Add) (Gb X.K):=by
 intro pins s σ H x y v u Q I rx ry h
 obtain ⟨a,b,xs,ys,rfl,rfl,ha,hb,hz,q0,q1,q2⟩:=h
 by_cases hx:xs=[]
 ·subst hx
  cases rx
  cases ry
  obtain ⟨its,r1,p1,_⟩:=I.tuple ha
  obtain ⟨its2,r2,p2,_⟩:=I.tuple hb
  cases r1
  obtain ⟨⟨cls,dd,data,sl⟩,ho,hc,n,hd⟩:=id p1
  obtain ⟨⟨cls2,dd2,data2,sl2⟩,ho2,hc2,n2,hd2⟩:=id p2
  simp only at hc hd hc2 hd2
  subst hc hd hc2 hd2
  exact Ax ⟨_,ho,rfl⟩ ⟨_,ho2,rfl⟩ qJ xW ei dD (cY _ _)
   (tuple_addW0 a b _ _ n n2 dd dd2 sl sl2 (by rfl)) ⟨ho,ho2,⟨.ref b,H,I,rfl,q0 rfl⟩⟩
 ·exact Bm pins s σ H _ _ v u Q I rx ry ⟨a,b,xs,ys,rfl,rfl,ha,hb,hx,hz,q1 hx,q2 hx⟩
end
section
variable {prog:f6}{w:j6}{A:r6}{E:b8->b9->Prop}{s:b9}
theorem mE {t sl:Addr}{items:Array b8}{vl vu:b8}{lo hi:Option Int}{Q:b8->b9->Prop} (ht:wO s.heap t items) (hs:s.heap.IsSliceOf sl vl vu .none) (pl:jP vl lo) (pu:jP vu hi)
  (hw:HT.aY items.size 0 lo=0/\HT.aY items.size items.size hi=items.size) (h:Q (.ref t) s):i5 (n0 prog w) A (fk (.ref t) (.ref sl)) Q E s:=by
 obtain ⟨os,hos,hcs,hds⟩:=id hs
 have hTs:s.TypeIs (.ref sl) "slice":=⟨os,hos,hcs⟩
 unfold fk
 try with_reducible refine M7 ?_
 first|refine b5 (d5 ?_)|skip
 refine b5 (GY ht.typeIs (by decide) ?_)
 refine b5 (A4 (name:=O1 "__getitem__") ht.typeIs Q8
  (y6 Q8 ht.typeIs Eu ?_ (Fb _ _)))
 show i5 _ _ (bE (.ref t) >>= _) _ _ s
 refine b5 (tupleItemsOf_ ht (b5 (Ap hTs ?_)))
 rw[if_pos (by decide)]
 refine b5 (HT.df hs pl pu ?_)
 show i5 _ _ (if (((HT.aY items.size 0 lo:Nat):Int) == 0&&(1:Int) == 1&&(HT.aY items.size items.size hi - HT.aY items.size 0 lo) == items.size)=true then _ else _) _ _ s
 rw[if_pos (by rw[hw.1,hw.2];simp)]
 refine b5 (m:=iO (.ref t)) ?_
 unfold iO
 refine b5 (Ap ht.typeIs (d5 ?_))
 rw[if_pos (by decide)]
 refine b5 (L1 ?_)
 first
  | exact d5 ⟨_,rfl,d5 h⟩
  | exact b5 (d5 (d5 ⟨_,rfl,d5 h⟩))
end
section
variable {X:Cx}
noncomputable def rSlA (K:m6):V->Option Int->Option Int->Hp->VK->Prop:=fun x lo hi H Q=>∃a xs,x=.ref a/\bV K H a xs /\
 ((HT.aY xs.length 0 lo=0/\HT.aY xs.length xs.length hi=xs.length)->Q (.ref a) H) /\
 (¬ (HT.aY xs.length 0 lo=0/\HT.aY xs.length xs.length hi=xs.length)->∀p,H p=none->Q (.ref p) (v8 H p (.tup (jt xs lo hi))))
theorem De:HM X (rSlA X.K):=by
 intro pins s σ H x v vl vu lo hi sl Q I rx hs pl pu h
 obtain ⟨a,xs,rfl,hx,q1,q2⟩:=h
 by_cases hw:HT.aY xs.length 0 lo=0/\HT.aY xs.length xs.length hi=xs.length
 ·cases rx
  obtain ⟨its,r,ht,hz⟩:=I.tuple hx
  have hlen:its.toArray.size=xs.length:=by rw[j0];exact r.length.symm
  exact ⟨"tuple",_,PyProof.Rows.slot_tuple_getitem.lookup,ht.typeIs,mE ht hs pl pu (by rw[hlen];exact hw) ⟨.ref a,H,I,rfl,q1 hw⟩⟩
 ·exact Dd pins s σ H _ v vl vu lo hi sl Q I rx hs pl pu ⟨a,xs,rfl,hx,hw,q2 hw⟩
theorem ng:EU (.type "tuple") (dunderR "mul")=pure (some (.builtin "tuple.__rmul__")):=by rw[typeLookup_type,builtinLookup_eq_fast];kernel_rfl
theorem jj:fillsNumberSlot (.type "tuple") "mul"=pure false :=
 PySem.fillsNumberSlot_seq (id:="tuple.__mul__") (r:=some (.builtin "tuple.__rmul__")) F.slot_tuple_mul.lookup (by decide +kernel) ng (by decide +kernel)
theorem oM:seqRepeat? (.type "tuple")=pure (some (.builtin "tuple.__mul__")):=by
 unfold seqRepeat?
 rw[AC (T:="tuple") (name:="__mul__") (id:="tuple.__mul__") F.slot_tuple_mul.lookup (by decide +kernel),AC (T:="tuple") (name:="__rmul__") (id:="tuple.__rmul__") ng (by decide +kernel)]
 rfl
theorem uf (a:Int) (t:Tok) (l:Addr) (items:Array b8) (n:Nat) (dd:Option Addr) (sl:Array (Option b8)):
  HC (Z3.«int.__rmul__» ⟨[.int a t,.ref l],[]⟩) (fun _ R s=>s.heap.get? l=some { cls:=.type "tuple",dict:=dd,data:=.seq items n,slots:=sl }/\R (.ok (.ret wJ)) s):=
 .of_wp fun prog w A R s h=>by obtain ⟨hp,g,d,tk,os⟩:=s;obtain ⟨hl,h⟩:=h;wp_walk;exact ⟨_,rfl,h⟩
theorem uA (l:Addr) (items:Array b8) (n:Nat) (dd:Option Addr) (sl:Array (Option b8)) (t:Tok):
  HC (Z3.«tuple.__mul__» ⟨[.ref l,.int 1 t],[]⟩) (fun _ R s=>s.heap.get? l=some { cls:=.type "tuple",dict:=dd,data:=.seq items n,slots:=sl }/\R (.ok (.ret (.ref l))) s):=
 .of_wp fun prog w A R s h=>by
  obtain ⟨hp,g,d,tk,os⟩:=s;obtain ⟨hl,h⟩:=h
  wp_walk
  exact ⟨_,rfl,h⟩
theorem uz (l:Addr) (v:b8) (n:Nat) (dd:Option Addr) (sl:Array (Option b8)) (k:Int) (t:Tok) (hk:k=2 ∨ k=3 ∨ k=4):
  HC (Z3.«tuple.__mul__» ⟨[.ref l,.int k t],[]⟩) (fun _ R s=>s.heap.get? l=some { cls:=.type "tuple",dict:=dd,data:=.seq #[v] n,slots:=sl } /\
   R (.ok (.ret (.ref s.heap.objs.size))) { s with heap:=s.heap.push { cls:=.type "tuple",data:=.seq (E4 k.toNat v).toArray } }):=
 .of_wp fun prog w A R s h=>by
  obtain ⟨hp,g,d,tk,os⟩:=s;obtain ⟨hl,h⟩:=h
  rcases hk with rfl|rfl|rfl
  ·wp_walk
   exact ⟨_,rfl,h⟩
  ·wp_walk
   exact ⟨_,rfl,h⟩
  ·wp_walk
   exact ⟨_,rfl,h⟩
noncomputable def FV (K:m6):R2:=fun x y H Q=>∃a v k,x=.ref a/\y=.int k/\bV K H a [v]/\1<=k/\k<=4/\(k=1->Q (.ref a) H)/\(k≠1->∀p,H p=none->Q (.ref p) (v8 H p (.tup (E4 k.toNat v))))
theorem qN {v:V}{u:b8} (r:J3 v u):∀n:Nat,J2 (E4 n v) (E4 n u)
 | 0=>.nil
 | n+1=>.cons r (qN r n)
theorem Bl:iA X (V9 .Mult) (FV X.K):=by
 intro pins s σ H x y w' u Q I rx ry h
 obtain ⟨a,v,k,rfl,rfl,ha,h1,h4,q1,q2⟩:=h
 cases rx
 obtain ⟨t,rfl⟩:=ry
 obtain ⟨its,r,p1,_⟩:=I.tuple ha
 cases r with
 | cons r1 rr =>
  cases rr
  obtain ⟨⟨cls,dd,data,sl⟩,ho,hc,n,hd⟩:=id p1
  simp only at hc hd
  subst hc hd
  refine wpAny_binaryOp_repeat_ref (T:="tuple") (U:="int") (by decide) ⟨_,ho,rfl⟩ (fun s'=>typeIs_int s' k t) jj F.fills_int_mul HH oM F.slot_int_index.lookup
   (EZ HH (typeIs_int s k t) F.entry_int_rmul (F.args_int_rmul_2 _ _) (uf k t a _ n dd sl) ⟨ho,rfl,⟨_,ho,rfl⟩,?_⟩)
  by_cases hk:k=1
  ·subst hk
   exact EZ Fo ⟨_,ho,rfl⟩ EF (CL _ _) (uA a _ n dd sl t) ⟨ho,⟨.ref a,H,I,rfl,q1 rfl⟩⟩
  ·refine EZ Fo ⟨_,ho,rfl⟩ EF (CL _ _) (uz a _ n dd sl k t (by lia)) ⟨ho,?_⟩
   refine ⟨.ref s.heap.objs.size,_,I.laid (t':=s.toks) (o:=.tup (E4 k.toNat v)) (fun b ob q=>d6 _ q) (d9 _) ?_,rfl,q2 hk _ (I.hok.fresh (d9 _))⟩
   exact ⟨by rw[fI];exact f9 (show k.toNat<=1000 by lia) (O3 (mS (d9 _))),_,qN r1 _,kF _ _⟩
end
structure U4 (P:f6) (w:j6) (K:m6) (mg:Str->Option b8) (base:Heap) (k:Nat) (x:Str) (ps:List Str) (sp:Sp):Prop where
 ex:∃f fd,mg x=some (.ref f)/\dB K (.ref f)=true/\iB K fd ps []/\L3 P w K mg base dA k f fd ps sp
theorem U4.up {base:Heap}{j:Nat}{ps:List Str}(C:U4 P w K mg base j x ps sp) (h:j<=k):U4 P w K mg base k x ps sp :=
 let ⟨f,fd,a,b,c,d⟩:=C.ex;⟨f,fd,a,b,c,d.mono h⟩
noncomputable def tCb (sp:Sp) (t:TA):TE:=fun σ H Q=>t σ H fun vs H1=>sp vs H1 Q E0
section
variable {X:Cx}{k:Nat}{x:Str}{ps:List Str}{sp:Sp}{p pos:Pos}{e:Expr}{es:List Expr}{t:TA}
theorem w5 (C:U4 X.prog X.w X.K X.mg X.base k x ps sp) (hr:cH k X.A) (hg:Gl X x) (ha:PA X (e::es) t)
  (hdb:(x == ("__debug__":Str))=false:=by decide) (he:B5 (e::es) X.env=(false,eval e X.env)::B5 es X.env:=by rfl) (hpl:(bN pos (B5 es X.env)).any (·.1)=false:=by rfl):
  PE X (.Call (.Name x p) (e::es) [] pos) (tCb sp t):=by
 obtain ⟨f,fd,hm,hk,hb,F⟩:=C.ex
 have h:=vM (x:=x) (p:=p) (pos:=pos) F hr hg hm hk hb .nil Gd ha hdb he hpl
 have e:yr sp [] E0 t=tCb sp t:=by
  funext σ H Q
  show t σ H (fun vs H1=>sp (vs++[]) H1 Q E0)=t σ H (fun vs H1=>sp vs H1 Q E0)
  congr 1
  funext vs H1
  rw[W5]
 rw[<- e];exact h
end
section
variable {K:m6}{σ0:St}{te:TE}{H:Hp}{F:List V->Hp->Prop}
theorem T1 {lo:Int}{n:Nat} (hn:n<=i8) (Pv:Nat->List V->Hp->Prop) (h0:Pv 0 [] H) (hl:∀i ys H,Pv i ys H->ys.length=i) (hσ:σ0[0]?=some none)
  (hs:∀i ys H,i<n->Pv i ys H->te (σ0.set 0 (some (.int (lo+i)))) H fun y H'=>Pv (i+1) (ys++[y]) H') (hd:∀ys H,Pv n ys H->F ys H):Ac (Em lo n) σ0 (T6 0) M0 te H F:=by
 refine ⟨fun i m ys H=>m=n - i/\i<=n/\Pv i ys H,⟨n,by simp,j5 _,h0⟩,?_⟩
 rintro i m ys H2 ⟨rfl,hi,p⟩
 refine ⟨by rw[hl i ys H2 p];lia,?_⟩
 by_cases hlt:i<n
 ·refine .inr ⟨hlt,fun y H'=>Pv (i+1) (ys++[y]) H',fun _=>False,fun y H' q=>⟨n - (i+1),by lia,rfl,hlt,q⟩,fun _ q=>q.elim,fun x H3 y=>?_⟩
  obtain ⟨rfl,rfl⟩:=y
  exact ⟨Wk.set (.inl hσ),hs i ys _ hlt p⟩
 ·have e:i=n:=by lia
  subst e
  exact .inl ⟨d9 _,hd ys H2 p⟩
theorem qm {a:Addr}{xs:List V} (hn:xs.length<=i8) (Pv:Nat->List V->Hp->Prop) (h0:Pv 0 [] H) (hl:∀i ys H,Pv i ys H->ys.length=i) (hq:∀i ys H,i<=xs.length->Pv i ys H->bV K H a xs) (hσ:σ0[0]?=some none)
  (hs:∀i ys H x,xs[i]?=some x->Pv i ys H->te (σ0.set 0 (some x)) H fun y H'=>Pv (i+1) (ys++[y]) H') (hd:∀ys H,Pv xs.length ys H->F ys H):Ac (EO K a) σ0 (T6 0) M0 te H F:=by
 refine ⟨fun i m ys H=>m=xs.length - i/\i<=xs.length/\Pv i ys H,⟨xs.length,by simp,j5 _,h0⟩,?_⟩
 rintro i m ys H2 ⟨rfl,hi,p⟩
 have q:=hq i ys H2 hi p
 refine ⟨by rw[hl i ys H2 p];lia,?_⟩
 by_cases hlt:i<xs.length
 ·refine .inr ⟨⟨xs,xs[i],q,by simp[hlt]⟩,fun y H'=>Pv (i+1) (ys++[y]) H',fun _=>False,fun y H' q=>⟨xs.length - (i+1),by lia,rfl,hlt,q⟩,fun _ q=>q.elim,fun x H3 y=>?_⟩
  obtain ⟨rfl,y⟩:=y
  exact ⟨Wk.set (.inl hσ),hs i ys _ x (y xs q) p⟩
 ·have e:i=xs.length:=by lia
  subst e
  exact .inl ⟨⟨xs,q,d9 _⟩,hd ys H2 p⟩
theorem wB {a b:Addr}{xs ys:List V} (hn:xs.length<=i8) (hxy:xs.length=ys.length) (Pv:Nat->List V->Hp->Prop) (h0:Pv 0 [] H) (hl:∀i zs H,Pv i zs H->zs.length=i)
  (hq:∀i zs H,i<=xs.length->Pv i zs H->bV K H a xs/\bV K H b ys) (hσ:σ0[0]?=some none/\σ0[1]?=some none)
  (hs:∀i zs H x y p,xs[i]?=some x->ys[i]?=some y->H p=none->Pv i zs H->te ((σ0.set 0 (some x)).set 1 (some y)) (v8 H p (.tup [x,y])) fun z H'=>Pv (i+1) (zs++[z]) H') (hd:∀zs H,Pv xs.length zs H->F zs H):
  Ac (Itz K a b) σ0 (pW K 2 (bL (T6 0) (bL (T6 1) sf))) M0 te H F:=by
 refine ⟨fun i m zs H=>m=xs.length - i/\i<=xs.length/\Pv i zs H,⟨xs.length,by simp,j5 _,h0⟩,?_⟩
 rintro i m zs H2 ⟨rfl,hi,p⟩
 obtain ⟨q1,q2⟩:=hq i zs H2 hi p
 refine ⟨by rw[hl i zs H2 p];lia,?_⟩
 by_cases hlt:i<xs.length
 ·refine .inr ⟨⟨xs,ys,xs[i],ys[i]'(by lia),q1,q2,by simp[hlt],by rw[d0 (by lia)]⟩,fun y H'=>Pv (i+1) (zs++[y]) H',fun _=>False,fun y H' q=>⟨xs.length - (i+1),by lia,rfl,hlt,q⟩,fun _ q=>q.elim,fun v H3 yld=>?_⟩
  obtain ⟨r,x,y,hr,rfl,rfl,hx,hy⟩:=yld
  refine ⟨r,[x,y],rfl,.of i6,rfl,x,[y],rfl,y,[],rfl,rfl,?_,?_⟩
  ·refine ⟨by simp,fun j u e=>?_⟩
   by_cases h1:j=1
   ·subst h1;rw[hσ.2] at e;cases e
   ·rw[F0 (G8 h1)]
    by_cases h2:j=0
    ·subst h2;rw[hσ.1] at e;cases e
    ·rw[F0 (G8 h2)];exact e
  ·exact hs i zs _ x y r (hx xs q1) (hy ys q2) hr p
 ·have e:i=xs.length:=by lia
  subst e
  exact .inl ⟨⟨xs,q1,d9 _⟩,hd zs H2 p⟩
end
section
variable {X:Cx}
theorem oY {x:Str}{T:String}{pos:Pos} (hg:Gl X x) (hm:X.mg x=none) (hv:T7 x=some (.type T)) (hn:x≠"__name__":=by decide) (hd:(x == ("__debug__":Str))=false:=by decide):PE X (.Name x pos) (tC (.ty T)):=Bi hg hm hv (v:=.ty T) rfl hn hd
theorem Q5 {scope:Q2}{N:List Str}{s:b9}{H:Hp}{ex:List Addr}{i:Nat}{x:Str}{pos:Pos} (hN:N.Nodup) (hi:N[i]?=some x) (hx:GP (X.comp scope N s H ex).env.scope x)
  (hf:(X.comp scope N s H ex).fn x=true ∨ (X.comp scope N s H ex).env.scope.names.lookup x=some .local):PG (X.comp scope N s H ex) (.Name x pos) (T6 i):=O0 hN hi hx hf
end
theorem sz (h:n<=1000):n<=i8:=O3 (mS h)
section
variable {X:Cx}{K:m6}
theorem lenK (h:X.K=K):Z0 X (.builtin "len") (fun xs H Q=>∃p ys,xs=[.ref p]/\(eA K H p ys ∨ bV K H p ys)/\Q (.int ys.length) H):=by subst h;exact J6
theorem AV (h:X.K=K) (hc:X.calm=true):Z0 X (.builtin "sum") (fun xs H Q=>∃(p:Addr) (ns:List Int),xs=[.ref p]/\(eA K H p (ns.map V.int) ∨ bV K H p (ns.map V.int))/\Q (.int ns.sum) H):=by subst h;exact aE hc
theorem CP (h:X.K=K):Z0 X (.type "tuple") (fun xs H Q=>∃p ys,xs=[.ref p]/\((eA K H p ys/\∀l,H l=none->Q (.ref l) (v8 H l (.tup ys))) ∨ (bV K H p ys/\Q (.ref p) H))):=by subst h;exact F8
theorem EK (h:X.K=K):GS X (FW K):=by subst h;exact L5
theorem ixLK (h:X.K=K):GS X (FX K):=by subst h;exact Z5
theorem jS (h:X.K=K) {es:List Expr}{k:Nat}{t:Cv}{n:Nat}{pos:Pos} (hc:X.calm=true) (hp:GM X es t)
  (hn:(cD es X.env).length=n:=by rfl) (hst:(cD es X.env).findIdx? (·.1)=none:=by rfl):PG X (.Tuple es k pos) (pW K n t):=by subst h;exact je hc hp hn hst
end
noncomputable def Hd (h:Heap) (a C:Addr):Option Addr->Prop
 | none=>∃oe vs,h.get? a=some oe/\oe.cls=.ref C/\oe.dict=none/\oe.data=.fields vs/\vs[1]?=some .none
 | some T=>∃oe vs oT ts,h.get? a=some oe/\oe.cls=.ref C/\oe.dict=none/\oe.data=.fields vs/\vs[1]?=some (.ref T)/\T≠a/\h.get? T=some oT/\oT.data=.fields ts/\ts[3]?=some .none
theorem lL (f:Array b8->Array b8) (o:Obj):(O2 f o).dict=o.dict:=by
 obtain ⟨c,d,dt,sl⟩:=o
 cases dt <;> rfl
variable {ev:Env}{out:List Env}{L C:Addr}{Q:Unit->b9->Prop}
theorem we {bs:Heap}{ob:Obj}{us:Array b8}{hdv:b8}{hn:Bool}
  (fr:A.frames=some (ev::out)) (ff:s.heap.FunFrames bs (ev::out)) (fl:ev.frame=some L) (ga:s.heap.get? a=some ob) (gc:ob.cls=.ref C) (gd:ob.dict=none) (gf:ob.data=.fields us) (sz:1<us.size)
  (k:∀h' T,Hd h' a C (some T)->s.heap.objs.size<=T->(∀b o,b≠a->b ∉ pX (ev::out)->s.heap.get? b=some o->h'.get? b=some o) ->
   (∀b o,b≠a->s.heap.get? b=some o->∃sl,h'.get? b=some { o with slots:=sl })->Q () { s with heap:=h' }):
  i5 M A (do let x <- frameOf ev;let pl <- entryPlaceOf L hn;let b <- qM hdv x .none (V7 L) .none pl;jM (.ref a) 1 b) (fun _ s'=>i5 M A (HX (.ref a) none) Q E s') E s:=by
 have na:a ∉ (ev::out).filterMap (·.frame):=fun hm=>by
  obtain ⟨_,o,ho,hnf⟩:=ff.mem hm
  rw[ga] at ho
  cases ho
  exact hnf us gf
 refine b5 (wpAny_frameOf_fun fr ff fl fun g1 hs=>?_)
 refine b5 (wpAny_entryPlaceOf fun pl hpl=>?_)
 unfold qM newFields
 refine b5 (A1 ?_ (hpl.sizeOk5 _ _ _ _ _))
 have ga1:g1.get? a=some ob:=(hs.2.1 a na).trans ga
 generalize hnew:({ cls:=.type "traceback",dict:=none,data:=.fields ([hdv,.ref L,.none,V7 L,.none]++(if pl.isEmpty then E4 6 A5 else pl)).toArray }:Obj)=ot
 have ga2:(g1.push ot).get? a=some ob:=d6 (h:=g1) ot ga1
 have gt2:(g1.push ot).get? g1.objs.size=some ot:=n5 g1 (by rw[<- hnew];rfl)
 have otd:∃ts,ot.data=.fields ts/\3<ts.size:=by
  refine ⟨_,by rw[<- hnew],?_⟩
  simp only[j0,n8,p4,M4]
  lia
 obtain ⟨ts,otd,tsz⟩:=otd
 refine V5 ga2 gf sz ?_
 have neT:g1.objs.size≠a:=B4 (i4 ga1)
 have d3:=R0 gf (·.setIfInBounds 1 (j3 g1.objs.size))
 have ga3:=X7 (O2 (·.setIfInBounds 1 (j3 g1.objs.size))) ga2 (bJ d3)
 have gt3:((g1.push ot).update a (O2 (·.setIfInBounds 1 (j3 g1.objs.size)))).get? g1.objs.size=some ot :=
  (P6 (g1.push ot) (O2 (·.setIfInBounds 1 (j3 g1.objs.size))) (G8 neT)).trans gt2
 unfold HX
 refine b5 (y4 ga3 d3 (x:=.ref g1.objs.size) (by simp[sz]) ?_)
 rw[if_pos (show (j3 g1.objs.size != A5)=true from by simp)]
 refine V5 gt3 otd tsz ?_
 have kp:∀b o,b≠a->g1.get? b=some o ->
   (((g1.push ot).update a (O2 (·.setIfInBounds 1 (j3 g1.objs.size)))).update g1.objs.size (O2 (·.setIfInBounds 3 ((none:Option Addr).elim A5 fun f=>V7 f)))).get? b=some o:=by
  intro b o hb e
  have hbT:g1.objs.size≠b:=B4 (i4 e)
  rw[P6 _ _ hbT,P6 _ _ (G8 hb)]
  exact d6 _ e
 refine k _ g1.objs.size ⟨_,_,_,_,(P6 _ _ neT).trans ga3,?_,?_,d3,by simp[sz],neT,X7 _ gt3 (bJ (R0 otd _)),R0 otd _,?_⟩ (by rw[hs.1];exact d9 _) (fun b o hb hf e=>?_) (fun b o hb e=>?_)
 ·rw[kD]
  exact gc
 ·rw[lL]
  exact gd
 ·rw[Array.getElem?_setIfInBounds_self_of_lt tsz]
  rfl
 ·exact kp b o hb ((hs.2.1 b hf).trans e)
 ·obtain ⟨sl,e1⟩:=hs.2.2 b o e
  exact ⟨sl,kp b _ hb e1⟩
variable {hd:Option Addr}
theorem DJ {bs:Heap}
  (fr:A.frames=some (ev::out)) (ff:s.heap.FunFrames bs (ev::out)) (fl:ev.frame=some L) (x:Hd s.heap a C hd)
  (k:∀h' T,Hd h' a C (some T)->s.heap.objs.size<=T->(∀b o,b≠a->hd≠some b->b ∉ pX (ev::out)->s.heap.get? b=some o->h'.get? b=some o) ->
   (∀b o,b≠a->hd≠some b->s.heap.get? b=some o->∃sl,h'.get? b=some { o with slots:=sl })->Q () { s with heap:=h' }):
  i5 M A (HY (.ref a) ev) (fun _ s'=>i5 M A (HX (.ref a) none) Q E s') E s:=by
 unfold HY
 simp only[fl]
 cases hd with
 | none =>
  obtain ⟨oe,vs,e1,e2,e3,e4,e5⟩:=x
  refine b5 (y4 e1 e4 e5 ?_)
  rw[if_neg (by decide)]
  exact we fr ff fl e1 e2 e3 e4 (Array.getElem?_eq_some_iff.mp e5).1 fun h' T q1 q2 q3 q4=>k h' T q1 q2 (fun b o hb _=>q3 b o hb) (fun b o hb _=>q4 b o hb)
 | some T0 =>
  obtain ⟨oe,vs,oT,ts,e1,e2,e3,e4,e5,ne,t1,t2,t3⟩:=x
  refine b5 (y4 e1 e4 e5 ?_)
  rw[if_pos (show (j3 T0 != A5)=true from by simp)]
  refine b5 (y4 t1 t2 t3 ?_)
  rw[if_neg (show ¬ ((A5 == V7 L)=true) from by simp[V7])]
  refine b5 (V5 t1 t2 (Array.getElem?_eq_some_iff.mp t3).1 ?_)
  have ot:∀b,b≠T0->(s.heap.update T0 (O2 (·.setIfInBounds 3 A5))).get? b=s.heap.get? b:=fun b hb=>P6 _ _ (G8 hb)
  have nr:∀b o,s.heap.get? b=some o->(∀vs,o.data≠.fields vs)->b≠T0:=fun b o hb hnf q=>by
   rw[q,t1] at hb
   cases hb
   exact hnf ts t2
  refine we fr (ff.of_keeps fun b o hb hnf=>⟨o,(ot b (nr b o hb hnf)).trans hb,rfl⟩) fl ((ot a (G8 ne)).trans e1) e2 e3 e4 (Array.getElem?_eq_some_iff.mp e5).1 fun h' T q1 q2 q3 q4=>?_
  have q2':s.heap.objs.size<=T:=by
   have z:=Heap.size_after_update s.heap T0 (O2 (·.setIfInBounds 3 A5))
   rw[<- z];exact q2
  exact k h' T q1 q2' (fun b o hb hx hf e=>q3 b o hb hf ((ot b fun z=>hx (by rw[z])).trans e)) (fun b o hb hx e=>q4 b o hb ((ot b fun z=>hx (by rw[z])).trans e))
theorem Bz {bs:Heap}
  (fr:A.frames=some (ev::out)) (ff:s.heap.FunFrames bs (ev::out)) (fl:ev.frame=some L) (x:Hd s.heap a C hd)
  (k:∀h' T,Hd h' a C (some T)->s.heap.objs.size<=T->(∀b o,b≠a->hd≠some b->b ∉ pX (ev::out)->s.heap.get? b=some o->h'.get? b=some o) ->
   (∀b o,b≠a->hd≠some b->s.heap.get? b=some o->∃sl,h'.get? b=some { o with slots:=sl })->Q () { s with heap:=h' }):
  i5 M A (Ht ev (.ref a)) Q E s:=by
 unfold Ht
 exact b5 (DJ fr ff fl x k)
variable {h:Heap}
theorem J8.there (x:J8 P w H h a o):∃u,h.get? a=some u:=by
 cases o with
 | lst xs=>obtain ⟨_,_,_,_,e⟩:=x;exact ⟨_,e⟩
 | tup xs=>obtain ⟨_,_,_,ob,e,_⟩:=x;exact ⟨_,e⟩
 | dK kvs=>obtain ⟨_,_,_,_,ob,_,_,e,_⟩:=x;exact ⟨_,e⟩
 | dT kvs=>obtain ⟨_,_,_,_,ob,_,_,e,_⟩:=x;exact ⟨_,e⟩
 | set S n=>obtain ⟨ob,_,_,_,e,_⟩:=x;exact ⟨_,e⟩
 | ins C dx fs=>obtain ⟨_,_,_,e,_⟩:=x;exact ⟨_,e⟩
 | own y=>exact x
 | xd fs=>obtain ⟨_,⟨_,_,_,e,_⟩,_⟩:=x;exact ⟨_,e⟩
 | rng lo hi=>obtain ⟨_,_,_,e⟩:=x;exact ⟨_,e⟩
 | frz ob u=>obtain ⟨e,_⟩:=x;exact ⟨_,e⟩
 | tbl ps=>exact ⟨_,(show h.get? a=some _ from x)⟩
 | met f y=>exact ⟨_,(show h.get? a=some _ from x)⟩
 | ext φ=>obtain ⟨_,e,_⟩:=x;exact e
theorem cW.none_of (x:cW P w H h) (e:h.get? a=none):H a=none:=by
 cases z:H a with
 | none=>rfl
 | some u =>
  obtain ⟨o,eo⟩:=(x a u z).there
  rw[e] at eo
  cases eo
structure Fly (P:f6) (w:j6) (fs:List Addr) (H:Hp) (s:b9) (a C:Addr) (H':Hp) (s':b9):Prop where
 os:s'.os=s.os
 bare:fm s'.gens
 un:Un fs [] H H' s.heap s'.heap
 hok:cW P w H' s'.heap
 exc:∃T,Hd s'.heap a C (some T)/\s.heap.get? a=none/\s.heap.get? T=none/\H' a=none/\H' T=none
noncomputable def jY (P:f6) (w:j6):tG:=fun outer H s E e s'=>∃a C H',e=.ref a/\Fly P w (pX outer) H s a C H' s'/\E (.ref C) none H'
theorem un_x {fs:List Addr}{h':Heap}(ha:H a=none) (ht:∀T,hd=some T->H T=none) (hf:∀b∈fs,H b=none)
  (k1:∀b o,b≠a->hd≠some b->b ∉ fs->h.get? b=some o->h'.get? b=some o) (ok:cW P w H h):cW P w H h':=fun b o e=>by
 have nt:∀c u,H c=some u->c≠a/\hd≠some c/\c ∉ fs:=fun c u q=>by
  refine ⟨fun z=>?_,fun z=>?_,fun z=>?_⟩
  ·rw[z,ha] at q;cases q
  ·rw[ht c z] at q;cases q
  ·rw[hf c z] at q;cases q
 refine (ok b o e).stay (fun c u hc q=>?_) (fun _ q=>q) fun _ _ q=>q
 rcases hc with z|z
 ·subst z
  obtain ⟨n1,n2,n3⟩:=nt _ _ e
  exact k1 _ u n1 n2 n3 q
 ·obtain ⟨n1,n2,n3⟩:=nt _ _ z
  exact k1 _ u n1 n2 n3 q
variable {pins:List (Addr × Obj)}{σ:St}
theorem wd (I:A9 X pins σ H s) (hs:X.stack=X.env::X.outer) (hf:X.env.frame=some X.env.locals) (hex:X.ex=[])
  (x:Hd s.heap a C hd) (na:X.s₀.heap.get? a=none) (nT:∀T,hd=some T->X.s₀.heap.get? T=none) (ha:H a=none) (ht:∀T,hd=some T->H T=none)
  (q:∀s',Fly X.prog X.w X.fs X.H₀ X.s₀ a C H s'->Q () s'):i5 M X.A (Ht X.env (.ref a)) Q E s:=by
 have fr:X.A.frames=some (X.env::X.outer):=by rw[I.ok.frames,hs]
 have ff:s.heap.FunFrames X.base (X.env::X.outer):=by rw[<- hs];exact I.stack
 have hfs:pX (X.env::X.outer)=X.env.locals::X.fs:=by
  unfold pX
  rw[cG,hf]
  rfl
 refine Bz fr ff hf x fun h' T k0 k00 k1 k2=>q _ ?_
 have exN:∀b,b ∉ X.ex:=fun b z=>by rw[hex] at z;cases z
 have neA:∀b o,X.s₀.heap.get? b=some o->b≠a/\hd≠some b/\b≠X.env.locals:=fun b o e=>by
  refine ⟨fun z=>?_,fun z=>?_,q9 (w9 (i4 e) I.ok.above)⟩
  ·rw[z,na] at e;cases e
  ·rw[nT b z] at e;cases e
 refine ⟨I.os,I.bare,⟨fun b o e n hb _=>?_,fun b o e n hb _=>?_,fun b o e n _=>I.base.free b o e n (exN b),fun b o e _=>?_,I.base.tups,I.base.frzs,I.base.tbls⟩,un_x (fs:=pX (X.env::X.outer)) ha ht (fun b hb=>I.stkFree b (by rw[hs];exact hb)) k1 I.hok,T,k0,na,?_,ha,I.hok.fresh k00⟩
 ·obtain ⟨n1,n2,n3⟩:=neA b o e
  exact k1 b o n1 n2 (by rw[hfs];intro z;rcases List.mem_cons.mp z with z|z;exact n3 z;exact hb z) (I.base.keep b o e n hb (exN b))
 ·obtain ⟨n1,n2,n3⟩:=neA b o e
  obtain ⟨sl,e1⟩:=I.base.slot b o e n hb (exN b)
  obtain ⟨sl',e2⟩:=k2 b _ n1 n2 e1
  exact ⟨sl',e2⟩
 ·obtain ⟨n1,n2,n3⟩:=neA b o e
  obtain ⟨o',e1⟩:=I.base.there b o e (exN b)
  obtain ⟨sl',e2⟩:=k2 b _ n1 n2 e1
  exact ⟨_,e2⟩
 ·exact xO (f9 I.sz k00)
variable {b:Addr}
theorem ji {fs:List Addr}{h':Heap} (u:Un fs [] H H' h h') (e:h'.get? b=none):h.get? b=none:=by
 cases q:h.get? b with
 | none=>rfl
 | some o =>
  obtain ⟨o',e'⟩:=u.there b o q (by simp)
  rw[e'] at e
  cases e
section
variable {P:f6}{w:j6}{K:m6}{mg:Str->Option b8}{base:Heap}{N:List Str}{qual:Str}{scope:Q2}{f:Addr}{cd:b8}{A:r6}{outer:List Env}{s₀:b9}{H₀:Hp}{E:XK}
theorem aA:jz (jY P w) (dW (jY P w) P w K mg base N qual scope f cd A outer s₀ H₀ E) E:=by
 intro pins σ H s e s' I h
 obtain ⟨a,C,H',rfl,F,hE⟩:=h
 obtain ⟨T,x,n1,n2,n3,n4⟩:=F.exc
 have I':=I.call' (ch:=[]) F.os F.un F.hok F.bare (fun b z=>absurd z (by simp))
 exact wd I' rfl rfl rfl x (ji I.base n1) (fun T' z=>by cases z;exact ji I.base n2) n3 (fun T' z=>by cases z;exact n4) fun s'' F'=>⟨a,C,H',rfl,F',hE⟩
noncomputable def vE:List b8:=[.type "ValueError",.type "Exception",.type "BaseException",.type "object"]
noncomputable def XC (K:m6) (C:Addr):Prop:=Ew K C vE "ValueError.__new__"=true
theorem BH {K:m6}{h:Heap}{C:Addr} (X:K.In h) (q:XC K C):
  ∃bm N nm q bs hdct sn sub ab col dd k0 k1 k2 k3 k5 mN,h.get? C=some (excClassObj nm q C N bs bm hdct sn sub ab col dd k0 k1 k2 k3 k5 "ValueError.__new__")/\h.Ns N mN/\mN "__init__"=none/\OwnTail h vE bm:=by
 unfold XC Ew at q
 split at q
 case h_2=>cases q
 case h_1 dd cd sl ho =>
  split at q
  case h_2=>cases q
  case h_1 C' bm k0 k1 k2 k3 n k5 hm hs =>
   simp only[u7,beq_iff_eq,S4] at q
   obtain ⟨⟨⟨⟨⟨z1,z2⟩,hdel⟩,ht⟩,hok⟩,hni⟩:=q
   subst z1
   subst z2
   obtain ⟨nm,bs,mro,ns,qn,hd,sn,sub,ab,col,del⟩:=cd
   dsimp only at hm hdel hok hni
   subst hm hdel
   have hsl:sl=#[k0,k1,k2,k3,some (.builtin "ValueError.__new__"),k5]:=by
    obtain ⟨l⟩:=sl
    simp only at hs
    rw[hs]
   subst hsl
   exact ⟨bm,ns,nm,qn,bs,hd,sn,sub,ab,col,dd,k0,k1,k2,k3,k5,_,X _ _ ho,.of_isNs (W.isNs_of_in X hok),W.nsMap_none_of_in X hok hni,W.tail_of_in X ht⟩
noncomputable def CS (C:Addr) (E:XK) (t:TA):TS:=fun _ σ H=>t σ H fun _ H1=>E (.ref C) none H1
theorem yO {x:Str}{C:Addr}{e:Expr}{es:List Expr}{t:TA}{np cpos pos:Pos} (hg:Gl (dW (jY P w) P w K mg base N qual scope f cd A outer s₀ H₀ E) x) (hm:mg x=some (.ref C)) (hc:XC K C)
  (ha:PA (dW (jY P w) P w K mg base N qual scope f cd A outer s₀ H₀ E) (e::es) t) (hl:(e::es).length<=1:=by decide)
  (hdb:(x == ("__debug__":Str))=false:=by decide)
  (he:B5 (e::es) (V8 qual scope s₀.heap.objs.size f cd)=(false,eval e (V8 qual scope s₀.heap.objs.size f cd))::B5 es (V8 qual scope s₀.heap.objs.size f cd):=by rfl)
  (hpl:(bN cpos (B5 es (V8 qual scope s₀.heap.objs.size f cd))).any (·.1)=false:=by rfl)
  (hvl:∀σ H Q,t σ H Q->t σ H fun vs H1=>vs.length<=i8/\Q vs H1):
  PS (dW (jY P w) P w K mg base N qual scope f cd A outer s₀ H₀ E) (.Raise (some (.Call (.Name x np) (e::es) [] cpos)) none pos) (CS C E t):=by
 intro pins s σ H D I h
 obtain ⟨bm,NN,nm,q,bs,hdct,sn,sub,ab,col,dd,k0,k1,k2,k3,k5,mN,hC,hN,hni,T⟩:=BH I.ok.mod.kin hc
 have FB:=PySem.F.excBase_ValueError
 refine wpAny_Raise_call_subT (C:=C) (nm:=nm) (q:=q) (N:=NN) (bs:=bs) (bm:=bm) (hdct:=hdct) (sn:=sn) (sub:=sub) (ab:=ab) (col:=col) (dd:=dd) (k0:=k0) (k1:=k1) (k2:=k2) (k3:=k3) (k5:=k5)
  FB (mN:=mN) (T.hasType FB.hasBase) (I.ok.hd rfl) ?_ hni (pR I hg hm ⟨rfl,?_⟩ hdb)
 ·show (bN cpos (B5 (e::es) (V8 qual scope s₀.heap.objs.size f cd))).any (·.1)=false
  rw[he]
  show (false || (bN cpos (B5 es (V8 qual scope s₀.heap.objs.size f cd))).any (·.1))=false
  rw[hpl]
  rfl
 ·have hq:=ha cpos pins s σ H _ I (hvl _ _ _ h)
  show i5 _ _ (evalArgs (.ref C) true (bN cpos (B5 (e::es) (V8 qual scope s₀.heap.objs.size f cd))) []) _ _ s
  have hq':i5 (n0 P w) (A.deeper (V8 qual scope s₀.heap.objs.size f cd)) (spliced (bN cpos (B5 (e::es) (V8 qual scope s₀.heap.objs.size f cd)))) _ _ s:=hq
  rw[he] at hq' ⊢
  refine fV (F9 hq' (fun us s2 ⟨vs,H2,I2,r,lv,hE⟩=>⟨rfl,?_,I2.bk _ _ hC,hN.keeps I2.bk,T.keeps I2.bk,fun h' a mk=>?_⟩) fun _ _ y=>y)
  ·show us.length<=i8
   rw[<- r.length]
   exact lv
  ·obtain ⟨t,ea,tn,et⟩:=mk.there
   have ha:H2 a=none:=I2.hok.none_of mk.new
   have I3:A9 (dW (jY P w) P w K mg base N qual scope f cd A outer s₀ H₀ E) pins σ H2 { s2 with heap:=h' }:=I2.kept mk.keeps
   exact wd (hd:=none) I3 rfl rfl rfl ⟨_,_,ea,rfl,rfl,rfl,rfl⟩ (ji I2.base mk.new) (fun T' z=>by cases z) ha (fun T' z=>by cases z) fun s'' F'=>⟨a,C,H2,rfl,F',hE⟩
end
noncomputable abbrev KN (o:Obj):HO:=.frz o (.ext fun _=>True)
section
variable {P:f6}{w:j6}{fs:List Addr}{H H':Hp}{s s':b9}{a C:Addr}{M:lW}{A:r6}{E:b8->b9->Prop}{Q:Unit->b9->Prop}
end
structure XI (K:m6) (C:Addr):Prop where
 ga:fB K (.ref C) "__getattribute__"=some (some (.builtin "BaseException.__getattribute__"))
 gt:fB K (.ref C) "__getattr__"=some none
 sb:W.subIn K (.ref C) (.type "BaseException")=some true
 hc:(W.clsIn K C).isSome=true
 ha:fB K (.ref C) "__class__"=some (some (.builtin "object.__class__"))
 hn:Az K (.builtin "object.__class__") "__get__"=some (some (.builtin "getset_descriptor.__get__"))
 tk:W.takesIn K (.builtin "object.__class__")=some true
 hm:W.mroIn K C (.type "object")=some true
noncomputable def GV (cl:List (Str × Addr)) (b:Addr):Prop:=∃x,cl.lookup x=some b
open Classical in
noncomputable def offC (cl:List (Str × Addr)) (H:Hp):Hp:=fun b=>if GV cl b then none else H b
open Classical in
noncomputable def onC (cl:List (Str × Addr)) (H H':Hp):Hp:=fun b=>if GV cl b then H b else H' b
noncomputable def CelK (cl:List (Str × Addr)) (H:Hp):Prop:=∀x c,cl.lookup x=some c->∃oc v,H c=some (KN oc)/\oc.data=.cell v
section
variable {P:f6}{w:j6}{fs:List Addr}{cl:List (Str × Addr)}{H H':Hp}{h h':Heap}
end
structure LamX (X:Cx) (T:Addr):Prop where
 code:∃c,X.env.code=.ref c/\W.CodeHd X.base c T
 blt:X.base.BuiltinsAt X.mg T
section
variable {P:f6}{w:j6}{K:m6}{mg:Str->Option b8}{base:Heap}{N:List Str}{qual:Str}{scope:Q2}{f:Addr}{cd:b8}{cl:List (Str × Addr)}{A:r6}{outer:List Env}{s₀:b9}{H₀:Hp}{E:XK}
end
structure GQ (cl:List (Str × Addr)) (scope:Q2):Prop where
 kind:scope.kind=.function
 co:scope.isCoroutine=false
 gen:scope.isGenerator=false
 nocell:∀x∈scope.names,x.2≠.cell
 inj:∀x y c,cl.lookup x=some c->cl.lookup y=some c->x=y
 has:∀x,scope.names.lookup x=some .free->∃c,cl.lookup x=some c
structure FrzX (X:Cx) (σ:St) (H Hf:Hp):Prop where
 out:∀b,¬ GV X.env.cells b->Hf b=H b
 none:∀b,GV X.env.cells b->H b=none
 cell:CelK X.env.cells Hf
 val:∀(i:Nat) (x:Str) (v:V),X.N[i]?=some x->σ[i]?=some (some v)->(X.env.kindOf x=some .cell ∨ X.env.kindOf x=some .free)->∃c oc u,X.env.cells.lookup x=some c/\Hf c=some (KN oc)/\oc.data=.cell (some u)/\J3 v u
open Classical in
noncomputable def frzAll (cl:List (Str × Addr)) (h:Heap) (H:Hp):Hp:=fun b=>if GV cl b then (h.get? b).map (fun o=>KN o) else H b
noncomputable abbrev TJ:=St->Hp->(Hp->Prop)->Prop
noncomputable def PJ (X:Cx) (es:List Expr) (n:Nat) (t:TJ):Prop :=
 ∀(acc:Str),acc.length<=n->∀(pins:List (Addr × Obj)) (s:b9) (σ:St) (H:Hp) (Q:Hp->Prop),A9 X pins σ H s->t σ H Q ->
  i5 (n0 X.prog X.w) X.A (HZ acc (evalEach es X.env)) (fun u s'=>∃z H',A9 X pins σ H' s'/\J3 (.str z) u/\Q H') X.xe s
section
variable {X:Cx}{es:List Expr}{n:Nat}{t:TJ}
theorem yQ (h:n<=i8:=by decide):PJ X [] n (fun _ H Q=>Q H):=by
 intro acc ha pins s σ H Q I q
 exact joinParts_nil (s:=s) ⟨acc,H,I.tok _,⟨_,rfl⟩,q⟩ (f9 ha h)
variable {pos:Pos}
theorem oU {x:Str}{j:Nat}(h:PJ X es (n+x.length) t) (hz:n+x.length<=i8:=by decide):PJ X (.Constant (.str x) j pos::es) n t:=by
 intro acc ha pins s σ H Q I q
 show i5 _ _ (HZ acc (eval (.Constant (.str x) j pos) X.env::evalEach es X.env)) _ _ _
 refine joinParts_cons (yi ⟨?_,?_⟩)
 ·rw[lS];lia
 ·exact h (acc++x) (by rw[lS];lia) pins _ σ H Q (I.tok _) q
theorem uk {e:Expr}{te:TE}(he:PE X e te) (h:PJ X es (n+100) t) (hz:n+100<=i8:=by decide):
  PJ X (.FormattedValue e (-1) none pos::es) n (fun σ H Q=>te σ H fun v H1=>∃i:Int,v=.int i/\i.natAbs.log2<1920/\(toString i:Str).length<=100/\t σ H1 Q):=by
 intro acc ha pins s σ H Q I q
 show i5 _ _ (HZ acc (eval (.FormattedValue e (-1) none pos) X.env::evalEach es X.env)) _ _ _
 refine joinParts_cons (FormattedValue_plain (R4 (he pins s σ H _ I q) fun u s1 ⟨v,H1,I1,r,i,ev,hl,hz',q1⟩=>?_))
 subst ev
 obtain ⟨tk,rfl⟩:=r
 refine formatField_int_small hl ⟨?_,?_⟩
 ·rw[lS];lia
 ·exact h _ (by rw[lS];lia) pins _ σ H1 Q (I1.tok _) q1
theorem vL {v1 v2:Expr}{cu:List Expr}(h:PJ X (v1::v2::cu) 0 t):PE X (.JoinedStr (v1::v2::cu) pos) (fun σ H Q=>t σ H fun H1=>∀z,Q (.str z) H1):=by
 intro pins s σ H Q I q
 exact JoinedStr_many (R4 (h Str.empty (d9 _) pins s σ H _ I q) fun u s1 ⟨z,H1,I1,r,q1⟩=>⟨.str z,H1,I1,r,q1 z⟩)
end
theorem eU :jz (jY P w) X E0:=fun _ _ _ _ _ _ _ h=>by
 obtain ⟨_,_,_,_,_,z⟩:=h
 exact z.elim
section
variable {P:f6}{w:j6}{K:m6}{mg:Str->Option b8}{base:Heap}
theorem bC.okX {x qual:Str}{st:Stmt}{f:Addr}{fd:A7}{N ps:List Str}{k:Nat}{sp:Sp} (F:bC K x qual st f fd) (S:A2 N ps (u0 st)) (len:∀vs H Q E,sp vs H Q E->vs.length=ps.length)
  (hbody:∀(cdv:b8) (A:r6) (outer:List Env) (s:b9) (H:Hp) (vs:List V) (Q:VK) (E:XK),cH k (A.deeper (V8 qual (u0 st) s.heap.objs.size f cdv))->sp vs H Q E ->
   ∃t,qv (dW (jY P w) P w K mg base N qual (u0 st) f cdv A outer s H E) (ba st) t/\t { nx:=fun _ H'=>Q .non H',rt:=Q } (start N vs) H):L3 P w K mg base (jY P w) (k+1) f fd ps sp:=by
 obtain ⟨oc,od,kV,doc,pm,an,cdv,ct,osl,rfl,lk,hcd⟩:=F.ex
 exact Cs lk hcd S len fun A outer s H vs Q E hr hsp=>hbody cdv A outer s H vs Q E hr hsp
end
section
variable {P:f6}{w:j6}{K:m6}{mg:Str->Option b8}{base:Heap}{N:List Str}{qual:Str}{scope:Q2}{f:Addr}{cd:b8}{A:r6}{outer:List Env}{s₀:b9}{H₀:Hp}{E:XK}
theorem dj {x:Str}{C:Addr}{e:Expr}{te:TE}{np cpos pos:Pos} (hm:mg x=some (.ref C)) (hc:XC K C) (he:PE (dW (jY P w) P w K mg base N qual scope f cd A outer s₀ H₀ E) e te)
  (hmono:∀σ H (Q Q':VK),(∀v H1,Q v H1->Q' v H1)->te σ H Q->te σ H Q')
  (hg:Gl (dW (jY P w) P w K mg base N qual scope f cd A outer s₀ H₀ E) x:=by rfl)
  (hdb:(x == ("__debug__":Str))=false:=by decide)
  (hst:B5 [e] (V8 qual scope s₀.heap.objs.size f cd)=(false,eval e (V8 qual scope s₀.heap.objs.size f cd))::B5 [] (V8 qual scope s₀.heap.objs.size f cd):=by rfl):
  PS (dW (jY P w) P w K mg base N qual scope f cd A outer s₀ H₀ E) (.Raise (some (.Call (.Name x np) [e] [] cpos)) none pos) (fun _ σ H=>te σ H fun _ H1=>E (.ref C) none H1):=by
 have h:=yO (E:=E) (pos:=pos) (np:=np) (cpos:=cpos) (t:=qS te CU) hg hm hc (b6 he d8 (hs:=hst)) (d9 _) hdb hst rfl (fun σ H Q q=>hmono _ _ _ _ (fun v H1 z=>⟨by show 1<=i8;decide,z⟩) q)
 exact h
end
structure Z9 (P:f6) (w:j6) (K:m6) (mg:Str->Option b8) (base:Heap) (k:Nat) (x:Str) (ps:List Str) (sp:Sp):Prop where
 ex:∃f fd,mg x=some (.ref f)/\dB K (.ref f)=true/\iB K fd ps []/\L3 P w K mg base (jY P w) k f fd ps sp
theorem Z9.up {base:Heap}{j:Nat}{ps:List Str}(C:Z9 P w K mg base j x ps sp) (h:j<=k):Z9 P w K mg base k x ps sp :=
 let ⟨f,fd,a,b,c,d⟩:=C.ex;⟨f,fd,a,b,c,d.mono h⟩
noncomputable def tCx (sp:Sp) (E:XK) (t:TA):TE:=fun σ H Q=>t σ H fun vs H1=>sp vs H1 Q E
section
variable {X:Cx}{k:Nat}{x:Str}{ps:List Str}{sp:Sp}{p pos:Pos}{e:Expr}{es:List Expr}{t:TA}{E:XK}
theorem O6 (C:Z9 X.prog X.w X.K X.mg X.base k x ps sp) (hr:cH k X.A) (hg:Gl X x) (hx:jz (jY X.prog X.w) X E) (ha:PA X (e::es) t)
  (hdb:(x == ("__debug__":Str))=false:=by decide) (he:B5 (e::es) X.env=(false,eval e X.env)::B5 es X.env:=by rfl) (hpl:(bN pos (B5 es X.env)).any (·.1)=false:=by rfl):
  PE X (.Call (.Name x p) (e::es) [] pos) (tCx sp E t):=by
 obtain ⟨f,fd,hm,hk,hb,F⟩:=C.ex
 have h:=vM (x:=x) (p:=p) (pos:=pos) F hr hg hm hk hb .nil hx ha hdb he hpl
 have e:yr sp [] E t=tCx sp E t:=by
  funext σ H Q
  show t σ H (fun vs H1=>sp (vs++[]) H1 Q E)=t σ H (fun vs H1=>sp vs H1 Q E)
  congr 1
  funext vs H1
  rw[W5]
 rw[<- e];exact h
end
structure sR (K:m6) (mg:Str->Option b8) (c:Nat->Addr) (B:Addr):Prop where
 e0:mg "NoUrn"=some (.ref (c 0))
 e1:mg "NoRule"=some (.ref (c 1))
 e2:mg "NoKind"=some (.ref (c 2))
 e3:mg "NoBall"=some (.ref (c 3))
 e4:mg "NoDraws"=some (.ref (c 4))
 e5:mg "NoNumber"=some (.ref (c 5))
 e6:mg "NotEven"=some (.ref (c 6))
 e7:mg "NoCounts"=some (.ref (c 7))
 e8:mg "NotAlike"=some (.ref (c 8))
 e9:mg "BadNote"=some (.ref (c 9))
 eb:mg "UrnError"=some (.ref B)
 xc:∀i,i<10->XC K (c i)
 xi:∀i,i<10->XI K (c i)
 sub:∀i,i<10->W.kitCls K (.ref (c i)) (.ref B)=some true
 bb:W.subIn K (.ref B) (.type "BaseException")=some true
 one:∀i j,i<10->j<10->iL K (.ref (c i)) (.ref (c j))=some (decide (i=j))
 val:∀i,i<10->iL K (.ref (c i)) (.type "ValueError")=some true
noncomputable def Sm (i:Int):Prop:=i.natAbs.log2<1920/\(toString i:Str).length<=100
section
variable {X:Cx}{pins:List (Addr × Obj)}{σ:St}{H:Hp}{s:b9}
noncomputable def Ga:R2:=fun x y H Q=>∃(a b:Addr) (xs ys:List V),x=.ref a/\y=.ref b/\H a=some (.tup xs)/\H b=some (.tup ys)/\xs.length+ys.length<=1000/\∀p H',j4 H H'->H' p=some (.tup (xs++ys))->Q (.ref p) H'
theorem catS:iA X (V9 .Add) Ga:=by
 intro pins s σ H x y v u Q I rx ry h
 obtain ⟨a,b,xs,ys,rfl,rfl,ha,hb,hz,q⟩:=h
 refine Bn pins s σ H _ _ v u Q I rx ry ⟨a,b,xs,ys,rfl,rfl,.of ha,.of hb,f9 hz (by decide),fun e=>?_,fun _ e=>?_,fun _ _ p hp=>?_⟩
 ·subst e
  exact q b H (j4.refl H) hb
 ·subst e
  exact q a H (j4.refl H) (by rw[W5];exact ha)
 ·exact q p _ (j4.new hp) i6
end
section
variable {K:m6}{σ0:St}{te:TE}{H:Hp}{F:List V->Hp->Prop}
theorem iz {a:Addr}{xs:List V} (hn:xs.length<=i8) (Pv:Nat->List V->Hp->Prop) (h0:Pv 0 [] H) (hl:∀i ys H,Pv i ys H->ys.length=i) (hq:∀i ys H,i<=xs.length->Pv i ys H->eA K H a xs) (hσ:σ0[0]?=some none)
  (hs:∀i ys H x,xs[i]?=some x->Pv i ys H->te (σ0.set 0 (some x)) H fun y H'=>Pv (i+1) (ys++[y]) H') (hd:∀ys H,Pv xs.length ys H->F ys H):Ac (Cw K a) σ0 (T6 0) M0 te H F:=by
 refine ⟨fun i m ys H=>m=xs.length - i/\i<=xs.length/\Pv i ys H,⟨xs.length,by simp,j5 _,h0⟩,?_⟩
 rintro i m ys H2 ⟨rfl,hi,p⟩
 have q:=hq i ys H2 hi p
 refine ⟨by rw[hl i ys H2 p];lia,?_⟩
 by_cases hlt:i<xs.length
 ·refine .inr ⟨⟨xs,xs[i],q,by simp[hlt]⟩,fun y H'=>Pv (i+1) (ys++[y]) H',fun _=>False,fun y H' q=>⟨xs.length - (i+1),by lia,rfl,hlt,q⟩,fun _ q=>q.elim,fun x H3 y=>?_⟩
  obtain ⟨rfl,y⟩:=y
  exact ⟨Wk.set (.inl hσ),hs i ys _ x (y xs q) p⟩
 ·have e:i=xs.length:=by lia
  subst e
  exact .inl ⟨⟨xs,q,d9 _⟩,hd ys H2 p⟩
end
section
variable {X:Cx}{es:List Expr}{te:TE}{t:TA}
end
structure Clo (X:Cx):Prop where
 inj:∀x y c,X.env.cells.lookup x=some c->X.env.cells.lookup y=some c->x=y
 has:∀x,(X.env.kindOf x=some .cell ∨ X.env.kindOf x=some .free)->∃c,X.env.cells.lookup x=some c
section
variable {X:Cx}{σ:L2.St}{H Hf:Hp}{scope:Q2}
end
section
variable {X:Cx}
end
section
variable {X:Cx}{scope:Q2}{N:List Str}{ix:List (Option Nat)}{elt target iter:Expr}{ifs:List Expr}{pos:Pos}{wi:TI}{g:TG}{tc:TT}
end
section
variable {X:Cx}
end
section
variable (P:f6) (w:j6)
end
section
variable {P:f6}{w:j6}{H H':Hp}{h h':Heap}{a:Addr}{o:HO}
end
section
variable {P:f6}{w:j6}{H:Hp}{h h':Heap}{x e:Addr}{o':HO}
end
section
variable {fs fs' ex ex':List Addr}{H H1 H2:Hp}{h h1 h2 h':Heap}{a x e:Addr}{o:HO}
end
section
variable {X:Cx}{pins:List (Addr × Obj)}{σ:List (Option V)}{H H':Hp}{s:b9}{h':Heap}
end
section
variable {X:Cx}
variable {a b:Expr}{ta tb:TE}{pos:Pos}
variable {tA tB':TT}{cu:List Expr}
end
section
variable {X:Cx}{pins:List (Addr × Obj)}{σ:St}{H:Hp}{s:b9}{a:Addr}{xs ys:List V}
end
section
variable {X:Cx}{pins:List (Addr × Obj)}{σ:St}{H:Hp}{s:b9}{E:b8->b9->Prop}
end
section
variable {X:Cx}{st:Stmt}{cu:List Stmt}{t u:TS}{e:Expr}{te:TE}{pos:Pos}
end
section
variable {X:Cx}{pos:Pos}
end
section
variable {X:Cx}{tg:Expr}
end
section
variable {X:Cx}{a b c:Expr}{ta tb tc:TE}{pos:Pos}
end
section
variable {prog:f6}{w:j6}{A:r6}{E:b8->b9->Prop}{s:b9}{K:m6}{x dx C f:Addr}{mA:Str->Option b8}{name:Str}{v:b8}
end
section
variable {P:f6}{w:j6}{H H':Hp}{h h':Heap}{a C dx:Addr}{fs fs':List (Str × V)}
end
section
variable {X:Cx}{pins:List (Addr × Obj)}{σ:St}{H:Hp}{s:b9}{a C dx:Addr}{fs:List (Str × V)}{f:Str}{v:V}{A:r6}{E:b8->b9->Prop}
end
section
variable {X:Cx}{o e value:Expr}{f:Str}{pos pos' tpos:Pos}{ta tv:TE}
end
section
variable {X:Cx}{pins:List (Addr × Obj)}{σ:St}{H:Hp}{s:b9}{A:r6}{E:b8->b9->Prop}{Q:b8->b9->Prop}{c:b8}{b:Bool}
end
section
variable {X:Cx}{e:Expr}{es:List Expr}{te:TE}{t:TA}{pos:Pos}
end
section
variable {X:Cx}{pins:List (Addr × Obj)}{σ:St}{H:Hp}{s s':b9}
end
section
variable {X:Cx}{CX:tG}{k:Nat}{f C:Addr}{fd:A7}{ps:List Str}{sp:Sp}{dvs:List V}{ds:List b8}{E:XK}{x m:Str}{p pos apos:Pos}{e o:Expr}{es:List Expr}{ta:TE}{t:TA}
end
section
variable {X:Cx}{CX:tG}{k:Nat}{f C:Addr}{fd:A7}{ps ks:List Str}{sp:Sp}{E:XK}{x m:Str}{p pos apos kpos:Pos}{e o:Expr}{es:List Expr}{kws:List vi}{te ta:TE}{t tk:TA}{nm:Option Str}
variable {g:List b8->List b8->List b8}{gV:List V->List V->List V}
end
section
variable {X:Cx}{x:Str}{p pos:Pos}{e:Expr}{es:List Expr}{t:TA}{id T:String}{r:List V->Hp->VK->Prop}
end
section
variable {κ:Type} [DecidableEq κ]
noncomputable def iT (kvs:List (κ × V)) (k:κ):Option V:=(kvs.find? fun kv=>decide (kv.1=k)).map (·.2)
noncomputable def ja (kvs:List (κ × V)) (k:κ) (v:V):List (κ × V):=
 if (kvs.any fun kv=>decide (kv.1=k))=true then kvs.map (fun kv=>if kv.1=k then (kv.1,v) else kv) else kvs++[(k,v)]
theorem eE {p:κ × V}{r:List (κ × V)}{k:κ} (e:p.1=k):iT (p::r) k=some p.2:=by simp[iT,O7,e]
theorem eF {p:κ × V}{r:List (κ × V)}{k:κ} (e:¬ p.1=k):iT (p::r) k=iT r k:=by simp[iT,O7,e]
theorem qO (k:κ):∀kvs:List (κ × V),(kvs.any fun kv=>decide (kv.1=k))=(iT kvs k).isSome
 | []=>rfl
 | p::r=>by
  rw[iM]
  by_cases e:p.1=k
  ·simp only[eE e,decide_eq_true e,vj,xM]
  ·rw[eF e,decide_eq_false e,tq];exact qO k r
theorem jK (kvs:List (κ × V)) (k:κ) (v:V):(ja kvs k v).length<=kvs.length+1:=by
 unfold ja
 split
 ·rw[b7];lia
 ·rw[n8,p4,M4];lia
theorem jy.isSome_eq {o:Option V}{u:Option b8} (r:jy o u):o.isSome=u.isSome:=by
 cases o with
 | none=>cases u with
  | none=>rfl
  | some _=>exact (show False from r).elim
 | some _=>cases u with
  | none=>exact (show False from r).elim
  | some _=>rfl
theorem jy.getD {o:Option V}{u:Option b8}{d:V}{d':b8} (r:jy o u) (rd:J3 d d'):J3 (o.getD d) (u.getD d'):=by
 cases o with
 | none=>cases u with
  | none=>exact rd
  | some _=>exact (show False from r).elim
 | some _=>cases u with
  | none=>exact (show False from r).elim
  | some _=>exact r
variable {kvs:List (κ × V)}{vs:List (κ × b8)}
theorem KV.val (r:KV kvs vs) (k:κ):jy (iT kvs k) (nL vs k):=by
 unfold KV at r
 induction r with
 | nil=>exact V0
 | @cons p q ps qs h t ih =>
  obtain ⟨h1,h2⟩:=h
  by_cases e:p.1=k
  ·have e':q.1=k:=h1.symm.trans e
   have b:nL (q::qs) k=some q.2:=by simp[nL,O7,e']
   rw[eE e,b];exact h2
  ·have e':¬ q.1=k:=fun z=>e (h1.trans z)
   have b:nL (q::qs) k=nL qs k:=by simp[nL,O7,e']
   rw[eF e,b];exact ih
theorem KV.any {kvs:List (κ × V)}{vs:List (κ × b8)} (r:KV kvs vs) (k:κ):(kvs.any fun kv=>decide (kv.1=k))=vs.any fun kv=>decide (kv.1=k):=by
 unfold KV at r
 induction r with
 | nil=>rfl
 | cons h t ih=>rw[iM,iM,ih,h.1]
theorem KV.repl (r:KV kvs vs) (k:κ) {y:V}{u:b8} (ry:J3 y u):
  KV (kvs.map fun kv=>if kv.1=k then (kv.1,y) else kv) (vs.map fun kv=>if kv.1=k then (kv.1,u) else kv):=by
 unfold KV at r ⊢
 induction r with
 | nil=>exact .nil
 | @cons p q ps qs h t ih =>
  rw[j8,j8]
  refine .cons ?_ ih
  obtain ⟨h1,h2⟩:=h
  by_cases e:p.1=k
  ·rw[if_pos e,if_pos (h1.symm.trans e)];exact ⟨h1,ry⟩
  ·rw[if_neg e,if_neg (fun z=>e (h1.trans z))];exact ⟨h1,h2⟩
theorem KV.put (r:KV kvs vs) (k:κ) {y:V}{u:b8} (ry:J3 y u):KV (ja kvs k y) (stored vs k u):=by
 unfold ja stored
 rw[r.any k]
 by_cases e:(vs.any fun kv=>decide (kv.1=k))=true
 ·rw[if_pos e,if_pos e];exact r.repl k ry
 ·rw[if_neg e,if_neg e];exact Fk r ⟨rfl,ry⟩
theorem KV.length {kvs:List (κ × V)}{vs:List (κ × b8)} (r:KV kvs vs):kvs.length=vs.length:=G3 r
end
variable {u:b8}
theorem vY {k:V3}(r:J3 (kV k) u):(R6 P w).is k u=true:=by
 cases k with
 | inl i=>obtain ⟨t,e⟩:=(show ∃t,u=ky i t from r);subst e;exact rT P w i t
 | inr x=>obtain ⟨t,e⟩:=(show ∃t,u=sW x t from r);subst e;exact rR P w x t
theorem nB {P:f6}{w:j6}:∀{ks:List V3}{us:List b8},J2 (ks.map kV) us->ItemsAre (R6 P w) ks us
 | [],_,r=>by rw[vg] at r;cases r;exact .nil
 | k::ks,_,r=>by
  rw[j8] at r
  cases r with
  | cons h t=>exact .cons (vY h) (nB t)
noncomputable abbrev KT (H:Hp):List (List V3 × V)->List (List V3 × Addr × b8)->Prop:=bO fun p q=>p.1=q.1/\H q.2.1=some (.tup (p.1.map kV))/\J3 p.2 q.2.2
variable {kvs:List (List V3 × V)}{xs:List (List V3 × Addr × b8)}
theorem KT.val (r:KT H kvs xs) (k:List V3):jy (iT kvs k) ((lV xs k).map (·.2)):=by
 induction r with
 | nil=>exact V0
 | @cons p q ps qs h t ih =>
  obtain ⟨h1,_,h2⟩:=h
  by_cases e:p.1=k
  ·have e':q.1=k:=h1.symm.trans e
   have b:lV (q::qs) k=some q.2:=by simp[lV,O7,e']
   rw[eE e,b];exact h2
  ·have e':¬ q.1=k:=fun z=>e (h1.trans z)
   have b:lV (q::qs) k=lV qs k:=by simp[lV,O7,e']
   rw[eF e,b];exact ih
variable {y:V}
theorem KT.repl (r:KT H kvs xs) (k:List V3) (ry:J3 y u):
  KT H (kvs.map fun kv=>if kv.1=k then (kv.1,y) else kv) (xs.map (putAt k u)):=by
 induction r with
 | nil=>exact .nil
 | @cons p q ps qs h t ih =>
  rw[j8,j8]
  refine .cons ?_ ih
  obtain ⟨h1,h2,h3⟩:=h
  unfold putAt
  by_cases e:p.1=k
  ·rw[if_pos e,if_pos (h1.symm.trans e)];exact ⟨h1,h2,ry⟩
  ·rw[if_neg e,if_neg (fun z=>e (h1.trans z))];exact ⟨h1,h2,h3⟩
theorem KT.put (r:KT H kvs xs) (k:List V3) (hb:H b=some (.tup (k.map kV))) (ry:J3 y u):
  KT H (ja kvs k y) (Hh xs k b u):=by
 have e:(kvs.any fun kv=>decide (kv.1=k))=(lV xs k).isSome:=by
  rw[qO,(r.val k).isSome_eq,jD]
 unfold ja Hh
 rw[e]
 by_cases q:(lV xs k).isSome=true
 ·rw[if_pos q,if_pos q];exact r.repl k ry
 ·rw[if_neg q,if_neg q];exact Fk r ⟨rfl,hb,ry⟩
theorem KT.keeps (r:KT H kvs xs) (ht:∀b ys,H b=some (.tup ys)->H' b=some (.tup ys)):KT H' kvs xs :=
 Paired.mapP r fun _ _ z=>⟨z.1,ht _ _ z.2.1,z.2.2⟩
section
variable {P:f6}{w:j6}{H:Hp}{h:Heap}{a:Addr}
theorem vD {u:HO} (ok:cW P w H h) (e:Rd H a u):J8 P w H h a u:=e.ok ok
theorem sj {kvs:List (V3 × V)} (ok:cW P w H h) (e:Rd H a (.dK kvs)):kvs.length<=i8/\(a == K1)=false/\∃vs,KV kvs vs/\h.DictOf (R6 P w) a vs :=
 show J8 P w H h a (.dK kvs) from vD ok e
theorem GI {kvs:List (V3 × V)} (ok:cW P w H h) (e:H a=some (.dK kvs)):kvs.length<=i8/\(a == K1)=false/\∃vs,KV kvs vs/\h.DictOf (R6 P w) a vs:=sj ok (.inl e)
theorem jq {ks:List V3} (ok:cW P w H h) (e:H a=some (.tup (ks.map kV))):(fR (R6 P w)).is h ks a:=by
 obtain ⟨_,its,r,o,h1,h2,n,h3⟩:=(show J8 P w H h a (.tup (ks.map kV)) from ok a _ e)
 exact ⟨o,its.toArray,n,h1,h2,h3,by simpa using nB r⟩
theorem si {kvs:List (List V3 × V)} (ok:cW P w H h) (e:Rd H a (.dT kvs)):kvs.length<=i8/\(a == K1)=false /\
  ∃xs,KT H kvs xs/\h.DictOfH (fR (R6 P w)) a xs:=by
 obtain ⟨z,y,xs,r,o,es,ep,h1,h2,h3,h4,h5⟩:=(show J8 P w H h a (.dT kvs) from vD ok e)
 refine ⟨z,y,xs,r,o,es,ep,h1,h2,h3,h4,fun x hx=>?_,h5⟩
 have all:∀{l:List (List V3 × V)}{m:List (List V3 × Addr × b8)},KT H l m->∀x∈m,(fR (R6 P w)).is h x.1 x.2.1:=by
  intro l m q
  induction q with
  | nil=>intro x hx;exact nomatch hx
  | @cons p q ps qs hq t ih =>
   intro x hx
   rcases List.mem_cons.mp hx with e|hx
   ·subst e
    exact jq ok (by rw[<- hq.1];exact hq.2.1)
   ·exact ih x hx
 exact all r x hx
theorem GH {kvs:List (List V3 × V)} (ok:cW P w H h) (e:H a=some (.dT kvs)):kvs.length<=i8/\(a == K1)=false /\
  ∃xs,KT H kvs xs/\h.DictOfH (fR (R6 P w)) a xs:=si ok (.inl e)
end
noncomputable def qz (H:Hp) (a:Addr) (y:V) (r:Option V):Prop :=
 (∃kvs k,Rd H a (.dK kvs)/\y=kV k/\r=iT kvs k) ∨ ∃kvs k b,Rd H a (.dT kvs)/\y=.ref b/\H b=some (.tup (k.map kV))/\r=iT kvs k
noncomputable def Ab (H:Hp) (a:Addr) (y v:V) (H':Hp):Prop :=
 (∃kvs k,H a=some (.dK kvs)/\y=kV k/\kvs.length<i8/\H'=v8 H a (.dK (ja kvs k v))) ∨
 ∃kvs k b,H a=some (.dT kvs)/\y=.ref b/\H b=some (.tup (k.map kV))/\kvs.length<i8/\H'=v8 H a (.dT (ja kvs k v))
theorem qz.t {k:List V3} (e:H a=some (.dT kvs)) (eb:H b=some (.tup (k.map kV))):qz H a (.ref b) (iT kvs k):=.inr ⟨kvs,k,b,.inl e,rfl,eb,rfl⟩
theorem Ab.t {k:List V3}{v:V} (e:H a=some (.dT kvs)) (eb:H b=some (.tup (k.map kV))) (hl:kvs.length<i8):
  Ab H a (.ref b) v (v8 H a (.dT (ja kvs k v))):=.inr ⟨kvs,k,b,e,rfl,eb,hl,rfl⟩
section
variable {X:Cx}{pins:List (Addr × Obj)}{σ:St}{H:Hp}{s:b9}{a:Addr}{y v:V}{u r:b8}{o:Option V}{A:r6}{E:b8->b9->Prop}
theorem A9.big (I:A9 X pins σ H s):K1<s.heap.objs.size:=by
 have h:r9<s.heap.objs.size:=(I.mod.glob.keeps I.bk).lt
 exact Ig (by decide) h
theorem xC {Q:b8->b9->Prop} (hu:A.units+1<R8) (I:A9 X pins σ H s) (g:qz H a y (some v)) (ry:J3 y u) (h:∀w' s',A9 X pins σ H s'->J3 v w'->Q w' s'):
  i5 (n0 X.prog X.w) A (fk (.ref a) u) Q E s:=by
 rcases g with ⟨kvs,k,e,ey,l⟩|⟨kvs,k,b,e,ey,eb,l⟩
 ·subst ey
  obtain ⟨z,hd,vs,rel,dd⟩:=sj I.hok e
  obtain ⟨w',hw,rw'⟩:=jy.some_of (v:=v) (o:=nL vs k) (by rw[l];exact rel.val k)
  exact wpAny_getItem_of (vY ry) dd.mapOf hw (h w' _ (I.tok _) rw')
 ·subst ey
  cases (show u=j3 b from ry)
  obtain ⟨z,hd,xs,rel,dd⟩:=si I.hok e
  obtain ⟨w',hw,rw'⟩:=jy.some_of (v:=v) (o:=(lV xs k).map (·.2)) (by rw[l];exact rel.val k)
  obtain ⟨p,hp,hp2⟩:=Option.map_eq_some_iff.mp hw
  refine ES (me hu) (jq I.hok eb) dd hp ?_
  rw[hp2]
  exact h w' _ (I.tok _) rw'
theorem kq {h':Heap}{t':Nat}{ob:HO} (I:A9 X pins σ H s) (mu:GO (H a)) (hs:D0 a s.heap h') (he:∃q,h'.get? a=some q) (new:J8 X.prog X.w (v8 H a ob) h' a ob):
  A9 X pins σ (v8 H a ob) { s with heap:=h',toks:=t' } :=
 I.write (x:=a) (e:=a) mu (.inl rfl) (fun b q hb z=>(hs.2 b hb).trans z) he new
theorem DX {P:f6}{w:j6}{H':Hp}{h':Heap}{kvs:List (V3 × V)}{vs:List (V3 × b8)} (z:kvs.length<=i8) (hd:(a == K1)=false) (rel:KV kvs vs) (dd:h'.DictOf (R6 P w) a vs):
  J8 P w H' h' a (.dK kvs):=⟨z,hd,vs,rel,dd⟩
theorem xB {H':Hp}{Q:Unit->b9->Prop} (hu:A.units+1<R8) (I:A9 X pins σ H s) (g:Ab H a y v H') (ry:J3 y u) (rv:J3 v r) (h:∀s',A9 X pins σ H' s'->Q () s'):
  i5 (n0 X.prog X.w) A (setItem (.ref a) u r) Q E s:=by
 rcases g with ⟨kvs,k,e,ey,l,eH⟩|⟨kvs,k,b,e,ey,eb,l,eH⟩
 ·subst ey eH
  obtain ⟨z,hd,vs,rel,dd⟩:=GI I.hok e
  have hz:vs.length<=i8:=by rw[<- rel.length];exact z
  have hl:(ja kvs k v).length<=i8:=by have:=jK kvs k v;lia
  refine wpAny_setItem_pairs (hsz:=hz) (vY ry) dd fun h' dd' hs=>h _ ?_
  have he:∃q,h'.get? a=some q:=let ⟨q,_,_,hq,_⟩:=dd';⟨q,hq⟩
  exact kq I (by rw[e];exact V0) hs he (DX hl hd (rel.put k rv) dd')
 ·subst ey eH
  cases (show u=j3 b from ry)
  obtain ⟨z,hd,xs,rel,dd⟩:=GH I.hok e
  have hz:xs.length<=i8:=by rw[<- G3 rel];exact z
  have hl:(ja kvs k v).length<=i8:=by have:=jK kvs k v;lia
  refine ER (hsz:=hz) (me hu) (jq I.hok eb) dd fun h' dd' hs=>h _ ?_
  obtain ⟨q,es,ep,hq,h2,h3,h4,_,h5⟩:=dd'
  refine kq I (by rw[e];exact V0) hs ⟨q,hq⟩ ⟨hl,hd,_,(rel.put k eb rv).keeps fun c ys ec=>?_,q,es,ep,hq,h2,h3,h4,h5⟩
  rw[A3 (rQ ec e (fun z=>nomatch z))]
  exact ec
end
section
variable {X:Cx}{pins:List (Addr × Obj)}{σ:St}{H:Hp}{s:b9}{a:Addr}{kvs:List (V3 × V)}{k:V3}{u:b8}{A:r6}{E:b8->b9->Prop}
end
noncomputable def BU (i:Expr):Prop:=∀ov iv,sU i false ov iv=operate [ov,iv] (fk ov iv)
theorem vp {prog:f6}{value slice:Expr}{pos:Pos}{T id:String}{Q:b8->b9->Prop}
  (hl:EU (.type T) "__getitem__"=pure (some (.builtin id))) (hs:BU slice)
  (h:i5 (n0 prog w) A (eval value env) (fun o s₁=>i5 (n0 prog w) A (eval slice env) (fun i s₂=>s₂.TypeIs o T/\i5 (n0 prog w) A (fk o i) Q E s₂) E s₁) E s):
  i5 (n0 prog w) A (eval (.Subscript value slice pos) env) Q E s:=by
 refine Fh (F9 h (fun o s₁ h₁=>F9 h₁ (fun i s₂ h₂=>?_) fun _ _ x=>x) fun _ _ x=>x)
 obtain ⟨hT,h₂⟩:=h₂
 unfold xV
 refine b5 ?_
 rw[getitemInPython_of_ne hT.not_modules]
 refine b5 (cX hT hl ?_)
 have fin:i5 (n0 prog w) A (sU slice false o i) (fun r s₃=>i5 (n0 prog w) A (letTemporaryGo value o r >>= fun _=>pure r) Q E s₃) E s₂:=by
  rw[hs o i]
  exact wpAny_operating (F9 h₂ (fun r s₃ h₃=>b5 (wpAny_letTemporaryGo (d5 h₃))) fun _ _ x=>x)
 first
  | exact d5 (b5 fin)
  | exact b5 (d5 (b5 fin))
  | exact b5 fin
theorem sr {o:Option V} (I:A9 X pins σ H s) (g:qz H a y o):s.TypeIs (.ref a) "dict":=by
 rcases g with ⟨kvs,k,e,_,_⟩|⟨kvs,k,b,e,_,_,_⟩
 ·obtain ⟨_,_,vs,_,dd⟩:=sj I.hok e
  exact dd.typeIs
 ·obtain ⟨_,_,xs,_,dd⟩:=si I.hok e
  exact dd.typeIs
noncomputable def FG (td ty:TE):TE:=fun σ H Q=>td σ H fun x H1=>ty σ H1 fun y H2=>∃a v,x=.ref a/\qz H2 a y (some v)/\Q v H2
noncomputable def FR (td ty tv:TE):TS:=fun D σ H=>tv σ H fun v H1=>td σ H1 fun x H2=>ty σ H2 fun y H3=>∃a H4,x=.ref a/\Ab H3 a y v H4/\D.nx σ H4
section
variable {X:Cx}{o i e value:Expr}{pos pos' tpos:Pos}{td ty tv:TE}
theorem Bh (hu:X.A.units+1<R8) (ho:PE X o td) (hi:PE X i ty) (hs:BU i):PE X (.Subscript o i pos) (FG td ty):=by
 intro pins s σ H Q I h
 refine vp PySem.F.slot_dict_getitem.lookup hs (R4 (ho pins s σ H _ I h) fun u s1 ⟨x,H1,I1,rx,q1⟩=>R4 (hi pins s1 σ H1 _ I1 q1) fun iv s2 ⟨y,H2,I2,ry,a,v,ex,g,q2⟩=>?_)
 subst ex
 obtain rfl:u=j3 a:=rx
 exact ⟨sr I2 g,xC hu I2 g ry fun w' s3 I3 rw'=>⟨v,H2,I3,rw',q2⟩⟩
theorem Bb (hu:X.A.units+1<R8) (ho:PE X o td) (hi:PE X i ty) (hv:PE X value tv) (hs:qI value (some (.Subscript o i pos')) pos.line X.env=pure false):
  PS X (.Assign [.Subscript o i pos'] value pos) (FR td ty tv):=by
 intro pins s σ H D I h
 refine Aq (R4 (hv pins s σ H _ I h) fun r s1 ⟨v,H1,I1,rv,q1⟩=>R4 (ho pins s1 σ H1 _ I1 q1) fun u s2 ⟨x,H2,I2,rx,q2⟩=>R4 (hi pins s2 σ H2 _ I2 q2) fun iv s3 ⟨y,H3,I3,ry,a,H4,ex,g,q3⟩=>?_) hs
 subst ex
 obtain rfl:u=j3 a:=rx
 exact xB hu I3 g ry rv fun s4 I4=>⟨σ,H4,I4,q3⟩
end
theorem zS (h:Heap) (hb:K1<h.objs.size):J8 P w H (h.push { cls:=.type "dict",data:=.dict #[] }) h.objs.size (.dT []):=
 ⟨j5 _,beq_eq_false_iff_ne.mpr (G8 (q9 hb)),[],.nil,_,#[],0,n5 _ rfl,⟨rfl,rfl,rfl⟩,rfl,rfl,EA⟩
noncomputable def CV:TE:=fun _ H Q=>∀p,H p=none->Q (.ref p) (v8 H p (.dT []))
section
variable {X:Cx}{pos:Pos}
theorem yX:PE X (.Dict [] [] pos) CV:=fun pins s σ H Q I h =>
 HV ⟨.ref s.heap.objs.size,_,I.laid (a:=s.heap.objs.size) (o:=.dT []) (t':=s.toks) (fun _ _ q=>d6 _ q) (d9 _) (zS s.heap I.big),rfl,h _ (I.hok.fresh (d9 _))⟩
end
structure M1 (X:Cx) (o:Expr) (m:Str) (apos:Pos) (e:Expr) (cpos:Pos):Prop where
 base:xX o m X.env (eval o X.env)=eval o X.env
 few:((bN cpos (B5 [e] X.env)).all (fun x=>!x.1)&&(backToKw cpos (keywordEach [] X.env)).all (fun x=>x.1.isSome)
  && decide (([e]:List Expr).length+([]:List vi).length+(if ([]:List vi).isEmpty then 0 else 1)<30))=true
 line:(apos.endLine == cpos.line)=true
 trees:bN cpos (B5 [e] X.env)=[(false,eval e X.env)]
structure M2 (X:Cx) (o:Expr) (m:Str) (apos:Pos) (e f:Expr) (cpos:Pos):Prop where
 base:xX o m X.env (eval o X.env)=eval o X.env
 few:((bN cpos (B5 [e,f] X.env)).all (fun x=>!x.1)&&(backToKw cpos (keywordEach [] X.env)).all (fun x=>x.1.isSome)
  && decide (([e,f]:List Expr).length+([]:List vi).length+(if ([]:List vi).isEmpty then 0 else 1)<30))=true
 line:(apos.endLine == cpos.line)=true
 trees:bN cpos (B5 [e,f] X.env)=[(false,eval e X.env),(false,eval f X.env)]
noncomputable def IsD (H:Hp) (a:Addr):Prop:=(∃kvs,Rd H a (.dK kvs)) ∨ ∃kvs,Rd H a (.dT kvs)
theorem DT (I:A9 X pins σ H s) (d:IsD H a):
  s.TypeIs (.ref a) "dict"/\(∀b,j3 a=.ref b->∃ob,s.heap.get? b=some ob/\ob.dict=none)/\(a == K1)=false:=by
 rcases d with ⟨kvs,e⟩|⟨kvs,e⟩
 ·obtain ⟨_,hd,vs,_,dd⟩:=sj I.hok e
  refine ⟨dd.typeIs,fun b q=>?_,hd⟩
  cases q
  obtain ⟨ob,_,_,h1,h2,_⟩:=dd
  exact ⟨ob,h1,h2.2.1⟩
 ·obtain ⟨_,hd,xs,_,dd⟩:=si I.hok e
  refine ⟨dd.typeIs,fun b q=>?_,hd⟩
  cases q
  obtain ⟨ob,_,_,h1,h2,_⟩:=dd
  exact ⟨ob,h1,h2.2.1⟩
section
variable {X:Cx}{pins:List (Addr × Obj)}{σ:St}{H:Hp}{s:b9}{a:Addr}{y d:V}{u r:b8}{o:Option V}{A:r6}{E:b8->b9->Prop}
theorem DY {Q:b8->b9->Prop} (hu:A.units+1<R8) (I:A9 X pins σ H s) (g:qz H a y o) (ry:J3 y u) (rd:J3 d r) (h:∀w' s',A9 X pins σ H s'->J3 (o.getD d) w'->Q w' s'):
  i5 (n0 X.prog X.w) A (call (.builtin "dict.get") [.ref a,u,r]) Q E s:=by
 rcases g with ⟨kvs,k,e,ey,l⟩|⟨kvs,k,b,e,ey,eb,l⟩
 ·subst ey
  obtain ⟨z,hd,vs,rel,dd⟩:=sj I.hok e
  refine nS W1 dd.typeIs ej (dE _ _ _) (meets_dict_get_default (R6 X.prog X.w) a (vY ry) hd r) ⟨_,dd.mapOf,h _ _ (I.tok _) ?_⟩
  rw[l]
  exact (rel.val k).getD rd
 ·subst ey
  cases (show u=j3 b from ry)
  obtain ⟨z,hd,xs,rel,dd⟩:=si I.hok e
  refine nS W1 dd.typeIs ej (dE _ _ _) (Ad (fR (R6 X.prog X.w)) a b hd r) ⟨me hu,k,xs,jq I.hok eb,dd,h _ _ (I.tok _) ?_⟩
  rw[l]
  exact (rel.val k).getD rd
end
noncomputable def CW (td ty tx:TE):TE:=fun σ H Q=>td σ H fun x H1=>∃a,x=.ref a/\IsD H1 a/\ty σ H1 fun y H2=>tx σ H2 fun z H3=>∃o,qz H3 a y o/\Q (o.getD z) H3
section
variable {X:Cx}{o e f:Expr}{apos cpos:Pos}{td ty tx:TE}
theorem yY (hu:X.A.units+1<R8) (ho:PE X o td) (he:PE X e ty) (hf:PE X f tx) (m:M2 X o "get" apos e f cpos):PE X (.Call (.Attribute o "get" apos) [e,f] [] cpos) (CW td ty tx):=by
 intro pins s σ H Q I h
 refine He m.base m.few m.line dC W1 tf (R4 (ho pins s σ H _ I h) fun u s1 ⟨x,H1,I1,rx,a,ex,d,q1⟩=>?_)
 subst ex
 obtain rfl:u=j3 a:=rx
 obtain ⟨t1,t2,_⟩:=DT I1 d
 refine ⟨t1,t2,?_⟩
 rw[m.trees]
 refine eC rfl (fV (au (R4 (he pins s1 σ H1 _ I1 q1) fun iv s2 ⟨y,H2,I2,ry,q2⟩ =>
  au (R4 (hf pins s2 σ H2 _ I2 q2) fun fv s3 ⟨z,H3,I3,rz,ov,g,q3⟩=>jQ ?_))))
 exact DY hu I3 g ry rz fun w' s4 I4 rw'=>⟨_,H3,I4,rw',q3⟩
end
section
variable {X:Cx}{pins:List (Addr × Obj)}{σ:St}{H:Hp}{s:b9}{a:Addr}{kvs:List (V3 × V)}{A:r6}{E:b8->b9->Prop}
end
section
variable {X:Cx}{pins:List (Addr × Obj)}{σ:St}{H:Hp}{s:b9}{a:Addr}{y:V}{u:b8}{A:r6}{E:b8->b9->Prop}
end
end L2
namespace Att
open PySem PySem.W PySem.Calls PyProof.Rows
section
variable {prog:f6}{w:j6}{A:r6}{E:b8->b9->Prop}{s:b9}{K:Frag}
end
end Att
namespace L2
open PySem PySem.Spec PyProof.Rows
section
variable {P:f6}{w:j6}{K:m6}{mg:Str->Option b8}{base:Heap}
end
section
variable {X:Cx}
end
section
variable {κ:Type} [DecidableEq κ]
end
section
variable {prog:f6}{w:j6}{A:r6}{E:b8->b9->Prop}{s:b9}
noncomputable abbrev zQ (it:Addr):Obj:={ cls:=.type "enumerate",data:=.fields #[.none,.bool false,.ref it,V7 0,.none,.none] }
theorem xA (t:Addr) (xs:Array b8):
  HC (Z3.«enumerate.__new__» ⟨[.type "enumerate",.ref t],[]⟩) (fun _ R s=>s.heap.IsTuple t xs/\R (.ok (.ret (.ref (s.heap.push (Fu t)).objs.size))) { s with heap:=(s.heap.push (Fu t)).push (zQ s.heap.objs.size) }):=
 .of_wp fun prog w A R s h=>by
  obtain ⟨hp,g,d,tk,os⟩:=s;obtain ⟨hl,h⟩:=h
  have hsub:=sub_enumerate
  have hL:HF (ve ⟨hp,g,d,tk,os⟩) t xs:=hl
  obtain ⟨ol,hol,_⟩:=id hl
  wp_walk using Z4 hol
  refine wpAny_stack_any fun st=>d5 ?_
  split
  ·rename_i c _ _ _ _ _
   cases (c == Ic "enumerate")
   ·wp_walk using Z4 hol,X8 hL
    exact ⟨_,rfl,h⟩
   ·wp_walk using Z4 hol,X8 hL
    exact ⟨_,rfl,h⟩
  ·wp_walk using Z4 hol,X8 hL
   exact ⟨_,rfl,h⟩
structure HQ (h:Heap) (e it t:Addr) (k:Nat):Prop where
 en:∃old,AH h e it k old
 it:h.IsTupleIter it t k
variable {xs:Array b8}
theorem zR {e it t:Addr}{i:Nat}{x:b8}{Q:Option b8->b9->Prop} (Z:HQ s.heap e it t i) (hl:s.heap.IsTuple t xs) (hx:xs[i]?=some x) (hne:e≠it)
  (hQ:∀h',Ik h' e it ((i:Int)+1) x s.heap.objs.size->h'.IsTupleIter it t (i+1)->h'.get? s.heap.objs.size=some { cls:=.type "tuple",data:=.seq #[.int i s.toks,x] }->h'.objs.size=s.heap.objs.size+1 ->
   (∀b o,b ∉ [e,it]->s.heap.get? b=some o->h'.get? b=some o)->Q (some (.ref s.heap.objs.size)) { s with heap:=h',toks:=s.toks+1 }):i5 (n0 prog w) A (ah (.ref e)) Q E s:=by
 obtain ⟨⟨old,he⟩,hit⟩:=Z
 obtain ⟨hp,g,d,tk,os⟩:=s
 have hT:gO ⟨hp,g,d,tk,os⟩ (.ref e) "enumerate":=⟨_,he,rfl⟩
 unfold ah
 refine b5 (U5 (A4 (name:=O1 "__next__") hT cf (y6 cf hT yh ?_ (xP _))))
 show i5 _ _ (lU (.ref e) 2 >>= _) _ _ _
 refine b5 (y4 he rfl (x:=.ref it) rfl ?_)
 refine b5 (lC hit hl hx fun h1 hit1 s1=>?_)
 replace s1:D0 it hp h1:=s1
 have he1:AH h1 e it i old:=(s1.2 e hne).trans he
 show i5 _ _ (lU (.ref e) 3 >>= _) _ _ ⟨h1,g,d,tk,os⟩
 refine b5 (y4 he1 rfl (x:=V7 i) rfl ?_)
 show i5 _ _ (lU (.ref e) 4 >>= _) _ _ ⟨h1,g,d,tk,os⟩
 refine b5 (y4 he1 rfl (x:=.none) rfl ?_)
 show i5 _ _ (mkInt i >>= _) _ _ ⟨h1,g,d,tk,os⟩
 refine b5 (wpAny_mkInt ?_)
 show i5 _ _ (jM (.ref e) 3 (V7 ((i:Int)+1)) >>= _) _ _ ⟨h1,g,d,tk+1,os⟩
 refine b5 (B1 he1 (by simp) fun h2 he2 s2=>?_)
 replace s2:D0 e h1 h2:=s2
 replace he2:AH h2 e it ((i:Int)+1) old:=he2
 show i5 _ _ (jM (.ref e) 4 .none >>= _) _ _ ⟨h2,g,d,tk+1,os⟩
 refine b5 (B1 he2 (by simp) fun h3 he3 s3=>?_)
 replace s3:D0 e h2 h3:=s3
 replace he3:AH h3 e it ((i:Int)+1) old:=he3
 show i5 _ _ (CC [.int i tk,x] >>= _) _ _ ⟨h3,g,d,tk+1,os⟩
 refine b5 (eh ?_)
 have he4:AH (h3.push { cls:=.type "tuple",data:=.seq #[.int i tk,x] }) e it ((i:Int)+1) old:=d6 _ he3
 generalize hh4:h3.push { cls:=.type "tuple",data:=.seq #[.int i tk,x] }=h4 at he4
 have hsz:h3.objs.size=hp.objs.size:=by rw[s3.1,s2.1,s1.1]
 have hel:e<hp.objs.size:=i4 he
 have ht4:h4.get? hp.objs.size=some { cls:=.type "tuple",data:=.seq #[.int i tk,x] }:=by rw[<- hh4,<- hsz];exact n5 _ rfl
 have hz4:h4.objs.size=hp.objs.size+1:=by rw[<- hh4,C0,hsz]
 have hk4:∀b o,b≠e->b≠it->hp.get? b=some o->h4.get? b=some o:=fun b o hbe hbi hb=>by
  rw[<- hh4];exact d6 _ (s3.extBut b o hbe (s2.extBut b o hbe (s1.extBut b o hbi hb)))
 have hit4:h4.IsTupleIter it t (i+1):=by
  rw[<- hh4]
  exact hit1.at fun o e'=>d6 _ (s3.extBut _ o (G8 hne) (s2.extBut _ o (G8 hne) e'))
 show i5 _ _ (D7 (.ref e) >>= _) _ _ ⟨h4,g,d,tk+1,os⟩
 rw[hsz]
 clear hh4 he3 s3 he2 s2 he1 s1 hit1 hsz h3 h2 h1
 refine b5 ?_
 unfold D7
 refine b5 (y4 he4 rfl (x:=.none) rfl (d5 ?_))
 simp only[if_true]
 refine b5 (L1 ?_)
 refine b5 (y4 he4 rfl (x:=old) rfl ?_)
 refine b5 (B1 he4 (by simp) fun h5 he5 s5=>?_)
 replace s5:D0 e h4 h5:=s5
 replace he5:AH h5 e it ((i:Int)+1) x:=he5
 show i5 _ _ (M9 (.ref e) (.ref hp.objs.size) >>= _) _ _ ⟨h5,g,d,tk+1,os⟩
 refine b5 ?_
 unfold M9
 refine b5 (B1 he5 (by simp) fun h6 he6 s6=>?_)
 replace s6:D0 e h5 h6:=s6
 replace he6:Ik h6 e it ((i:Int)+1) x hp.objs.size:=he6
 refine B1 he6 (by simp) fun h7 he7 s7=>?_
 replace s7:D0 e h6 h7:=s7
 replace he7:Ik h7 e it ((i:Int)+1) x hp.objs.size:=he7
 refine b5 (sT (d5 ⟨_,rfl,d5 (hQ h7 he7 ?_ ?_ ?_ ?_)⟩))
 ·exact hit4.at fun o e'=>s7.extBut _ o (G8 hne) (s6.extBut _ o (G8 hne) (s5.extBut _ o (G8 hne) e'))
 ·exact s7.extBut _ _ (B4 hel) (s6.extBut _ _ (B4 hel) (s5.extBut _ _ (B4 hel) ht4))
 ·show h7.objs.size=hp.objs.size+1
  rw[s7.1,s6.1,s5.1,hz4]
 ·intro b o hb e'
  simp only[y3,E5,or_false,not_or] at hb
  exact s7.extBut b o hb.1 (s6.extBut b o hb.1 (s5.extBut b o hb.1 (hk4 b o hb.1 hb.2 e')))
theorem BK {e it t:Addr}{i:Nat}{Q:Option b8->b9->Prop} (hh:A.handled=none) (Z:HQ s.heap e it t i) (hl:s.heap.IsTuple t xs) (hx:xs[i]?=none)
  (hQ:∀h',gI it s.heap h'->Q none { s with heap:=h' }):i5 (n0 prog w) A (ah (.ref e)) Q E s:=by
 obtain ⟨⟨old,he⟩,hit⟩:=Z
 have hT:s.TypeIs (.ref e) "enumerate":=⟨_,he,rfl⟩
 unfold ah
 refine b5 (U5 (A4 (name:=O1 "__next__") hT cf (y6 cf hT yh ?_ (xP _))))
 show i5 _ _ (lU (.ref e) 2 >>= _) _ _ _
 refine b5 (y4 he rfl (x:=.ref it) rfl ?_)
 refine b5 (nh hh hit hl hx fun h' x he' hx'=>?_)
 obtain ⟨o,ho,hc⟩:=hx'
 exact b5 (V6 (T:="StopIteration") (b:=true) ⟨o,ho,hc⟩ jO (d5 (hQ _ he')))
theorem uV {t:Addr}{Q:b8->b9->Prop} (hl:s.heap.IsTuple t xs)
  (h:∀h',HQ h' (s.heap.objs.size+1) s.heap.objs.size t 0->(∀c o,s.heap.get? c=some o->h'.get? c=some o)->h'.objs.size=s.heap.objs.size+2->Q (.ref (s.heap.objs.size+1)) { s with heap:=h' }):
  i5 (n0 prog w) A (call (.type "enumerate") [.ref t]) Q E s:=by
 refine callType_new F.called_enumerate (by decide) (F.typeCall_enumerate_1 _) (F.newCall_enumerate_1 _) (fun obj=>F.args_object_init_2 obj _) F.entry_enumerate_new (xA t xs) ⟨hl,?_⟩
 simp only[C0]
 have e1:((s.heap.push (Fu t)).push (zQ s.heap.objs.size)).get? (s.heap.objs.size+1)=some (zQ s.heap.objs.size):=by
  have:((s.heap.push (Fu t)).push (zQ s.heap.objs.size)).get? (s.heap.push (Fu t)).objs.size=some (zQ s.heap.objs.size):=n5 _ rfl
  rwa [C0] at this
 refine ⟨⟨_,e1,rfl⟩,h _ ⟨⟨_,e1⟩,⟨_,d6 _ (n5 _ rfl),rfl,rfl⟩⟩ (fun c o e=>d6 _ (d6 _ e)) (by simp only[C0])⟩
end
section
variable {X:Cx}{pins:List (Addr × Obj)}{σ:St}{H:Hp}{s:b9}
noncomputable def GU (K:m6) (a:Addr):It :=
 ⟨fun i H=>∃xs x,bV K H a xs/\xs[i]?=some x,fun i H v H'=>∃p x,H p=none/\v=.ref p/\H'=v8 H p (.tup [.int i,x])/\∀xs,bV K H a xs->xs[i]?=some x,fun i H=>∃xs,bV K H a xs/\xs.length<=i⟩
theorem A9.yieldPair {h2:Heap}{t':Nat}{fp:List Addr}{x y:V}{u v:b8} (I:A9 X pins σ H s) (hf:∀b∈fp,jX X pins H b) (k2:∀c o,c ∉ fp->s.heap.get? c=some o->h2.get? c=some o)
  (e0:h2.get? s.heap.objs.size=some { cls:=.type "tuple",data:=.seq #[u,v] }) (ru:J3 x u) (rv:J3 y v):A9 X pins σ (v8 H s.heap.objs.size (.tup [x,y])) { s with heap:=h2,toks:=t' }:=by
 have hn:H s.heap.objs.size=none:=I.hok.fresh (d9 _)
 have pne:∀c o,s.heap.get? c=some o->c≠s.heap.objs.size:=fun c o e=>q9 (i4 e)
 have nit:∀c u,H c=some u->c ∉ fp:=fun c u e q=>by rw[(hf c q).1] at e;cases e
 have hok:cW X.prog X.w (v8 H s.heap.objs.size (.tup [x,y])) h2:=fun c ob e=>by
  by_cases hq:c=s.heap.objs.size
  ·subst hq
   rw[i6] at e;cases e
   exact ⟨by show 2<=i8;decide,[u,v],.cons ru (.cons rv .nil),⟨_,e0,rfl,_,rfl⟩⟩
  ·rw[A3 hq] at e
   refine (I.hok c ob e).stay (fun d w' hd q=>k2 d w' ?_ q) (fun d q=>by rw[A3 (u3 q hn)];exact q) fun d xs q=>by rw[A3 (u3 q hn)];exact q
   rcases hd with rfl|hd
   ·exact nit d ob e
   ·exact nit d _ hd
 refine I.step (g':=s.gens) (d':=s.drawn) (t':=t') (ch:=fp) (fun c hc=>⟨(hf c hc).2.2.2.1,(hf c hc).2.1,(hf c hc).2.2.2.2.1,(hf c hc).2.2.2.2.2⟩) (fun c o _ _ hc e _=>k2 c o hc e) (fun c o _ _ hc e _=>⟨o.slots,k2 c o hc e⟩)
  (fun c o _ e n=>by rw[A3 (pne c o e)];exact n) (fun c o hc e=>⟨o,k2 c o hc e⟩) (fun c xs e=>by rw[A3 (u3 e hn)];exact e) (fun c o u e=>by rw[A3 (u3 e hn)];exact e) (fun c ps e=>⟨#[],by rw[A3 (u3 e hn),e];simp⟩) (fun m hm=>?_) hok I.bare
 obtain ⟨o,es,ep,ho,r⟩:=hm
 exact ⟨o,es,ep,k2 _ o (fun q=>(hf _ q).2.1 rfl) ho,r⟩
theorem tR {P:f6}{w:j6}{K:m6}{es:List Expr}{kk:Nat}{pos:Pos}{a e it:Addr} (hne:e≠it):
  qt P w K (.Tuple es kk pos) (GU K a) [e,it] e (fun i h=>HQ h e it a i) where
 mem:=by simp
 obj:=fun i h st c hc=>by
  obtain ⟨⟨_,he⟩,⟨_,h1,_,d1⟩⟩:=st
  simp only[y3,E5,or_false] at hc
  rcases hc with rfl|rfl
  ·exact ⟨_,he,fun v q=>by cases q⟩
  ·exact ⟨_,h1,fun v q=>by rw[d1] at q;cases q⟩
 keep:=fun i h h' st k=>⟨let ⟨old,he⟩:=st.en;⟨old,k _ (by simp) _ he⟩,st.it.at fun o e=>k _ (by simp) o e⟩
 item:=by
  intro X hP hw hK hc i pins s σ H E I hf st hg
  subst hP hw hK
  obtain ⟨xs,x,ha,hx⟩:=hg
  obtain ⟨its,r1,p1,_⟩:=I.tuple ha
  obtain ⟨u,hu,ru⟩:=r1.get hx
  refine zR st (show s.heap.IsTuple a its.toArray from p1) (x:=u) (by simpa using hu) hne fun h' z1 j1 new sz keep=>?_
  refine ⟨_,rfl,wpAny_letOwnedTupleGo_enum (s:={ s with heap:=h',toks:=s.toks+1 }) z1 fun h2 z2 sb=>?_⟩
  have elt:e<s.heap.objs.size:=let ⟨_,he⟩:=st.en;i4 he
  have ilt:it<s.heap.objs.size:=let ⟨_,h1,_⟩:=st.it;i4 h1
  have k2:∀c o,c ∉ [e,it]->s.heap.get? c=some o->h2.get? c=some o:=fun c o hc q=>sb.extBut _ _ (fun z=>hc (by simp[z])) (keep c o hc q)
  have e0:h2.get? s.heap.objs.size=some { cls:=.type "tuple",data:=.seq #[.int i s.toks,u] }:=sb.extBut _ _ (B4 elt) new
  have hn:H s.heap.objs.size=none:=I.hok.fresh (d9 _)
  refine ⟨.ref s.heap.objs.size,_,I.yieldPair (t':=s.toks+1) (x:=.int i) (y:=x) hf k2 e0 ⟨_,rfl⟩ ru,rfl,⟨_,x,hn,rfl,rfl,fun xs' h'=>by rw[I.tuple_inj h' ha];exact hx⟩,?_,fun c hc=>?_⟩
  ·refine ⟨⟨u,?_⟩,j1.at fun o e'=>sb.extBut _ o (G8 hne) e'⟩
   have e1:((i+1:Nat):Int)=(i:Int)+1:=by lia
   rw[e1];exact z2
  ·have hlt:c<s.heap.objs.size:=by
    simp only[y3,E5,or_false] at hc
    rcases hc with rfl|rfl
    ·exact elt
    ·exact ilt
   rw[A3 (q9 hlt)]
   exact (hf c hc).1
 done:=by
  intro X hP hw hK hc i pins s σ H E I hf st hg
  subst hP hw hK
  obtain ⟨xs,ha,hx⟩:=hg
  obtain ⟨its,r1,p1,_⟩:=I.tuple ha
  have hl:=r1.length
  refine BK (I.ok.hd hc) st (show s.heap.IsTuple a its.toArray from p1) (by simp;lia) fun h' keep=>⟨rfl,I.turnedL (t':=s.toks) (ch:=[e,it]) (fun c o hc e=>keep c o (fun q=>hc (by simp[q])) e) hf⟩
 self:=fun _ _ _ _ _ st h=>let ⟨_,he⟩:=st.en;GZ he h
theorem xG:T7 "enumerate"=some (.type "enumerate"):=by decide +kernel
noncomputable def GC (K:m6) (ta:TA):TI:=fun σ H R=>ta σ H fun vs H1=>∃a xs,vs=[.ref a]/\bV K H1 a xs/\R (GU K a) H1
theorem yU {e1:Expr}{es:List Expr}{kk:Nat}{pt p pos:Pos}{ta:TA} (hg:Gl X "enumerate") (hm:X.mg "enumerate"=none) (ha:PA X [e1] ta) (hs:B5 [e1] X.env=[(false,eval e1 X.env)]:=by rfl):
  PI X (.Tuple es kk pt) (.Call (.Name "enumerate" p) [e1] [] pos) (GC X.K ta):=by
 intro pins s σ H R I h
 refine Call_ (jo I hg hm xG (U6 (R4 (ha pos pins s σ H _ I h) fun us s1 ⟨vs,H1,I1,r1,q1⟩=>?_) (by rw[hs];rfl) (by rfl)))
 obtain ⟨a,xs,rfl,hx,q⟩:=q1
 cases r1 with
 | cons ra rr =>
  cases rr
  cases ra
  obtain ⟨its,r1,p1,_⟩:=I1.tuple hx
  refine uV (show s1.heap.IsTuple a its.toArray from p1) fun h' Z keep sz=>?_
  obtain ⟨old,he⟩:=id Z.en
  refine GZ (s:={ s1 with heap:=h' }) he ?_
  have I2:A9 X pins σ H1 { s1 with heap:=h' }:=I1.kept (t':=s1.toks) keep
  refine ⟨s1.heap.objs.size+1,[s1.heap.objs.size+1,s1.heap.objs.size],_,_,H1,rfl,I2,tR (by show s1.heap.objs.size+1≠s1.heap.objs.size;lia),Z,fun c hc=>?_,q⟩
  have hge:s1.heap.objs.size<=c:=by
   simp only[y3,E5,or_false] at hc
   rcases hc with rfl|rfl <;> first|exact u9 _ _|exact d9 _
  exact I1.fpOk hge (I1.hok.fresh hge)
end
section
variable {prog:f6}{w:j6}{A:r6}{E:b8->b9->Prop}{s:b9}
variable {d:Addr}{Q:b8->b9->Prop}
theorem uM (hd:(d == K1)=false) (hT:s.TypeIs (.ref d) "dict") (h:Q (.ref s.heap.objs.size) { s with heap:=s.heap.push { cls:=.type "dict_items",data:=.fields #[.ref d] } }):
  i5 (n0 prog w) A (call (.builtin "dict.items") [.ref d]) Q E s:=by
 have g:MeetsIn prog w (Z3.«dict.items» ⟨[.ref d],[]⟩) (fun _ R s=>s.TypeIs (.ref d) "dict"/\R (.ok (.ret (.ref s.heap.objs.size))) { s with heap:=s.heap.push { cls:=.type "dict_items",data:=.fields #[.ref d] } }):=
  .of_wp fun A R s ⟨hm,h⟩=>by
   unfold Z3.«dict.items»
   refine b5 ?_
   unfold Builtin.Dict.noArgs
   refine b5 (BW hm ?_)
   show i5 _ _ (pure d) _ _ s
   refine d5 ?_
   show i5 _ _ (av d >>= _) _ _ s
   unfold av
   rw[if_neg (by rw[hd];exact n9)]
   refine b5 (d5 ?_)
   exact b5 (A1 (d5 ⟨_,rfl,h⟩))
 exact nS qA hT PySem.F.entry_dict_items (PySem.F.args_dict_items_1 _) g ⟨hT,h⟩
variable {od:Obj}{es:Array N3}{ep:Nat}
theorem rZ {v:Addr}(hv:s.heap.IsItemsView v d) (ho:s.heap.get? d=some od) (hdat:od.data=.dict es ep)
  (hQ:Q (.ref s.heap.objs.size) { s with heap:=s.heap.push { cls:=.type "dict_itemiterator",data:=.fields #[.none,.bool false,.ref d,.int 0 0,.int es.size 0,.int ep 0,.none,.none] } }):
  i5 (n0 prog w) A (jN (.ref v)) Q E s:=by
 obtain ⟨ov,hov,hcv,hdv⟩:=id hv
 refine nJ hv.typeIs yg (y6 yg hv.typeIs F.entry_dict_items_iter ?_ (F.args_dict_items_iter_1 _))
 unfold Z3.«dict_items.__iter__»
 refine b5 (d5 ?_)
 refine b5 ?_
 unfold Builtin.Dict_items.dictOf
 refine b5 (y4 hov hdv (x:=.ref d) rfl (d5 ?_))
 refine b5 ?_
 unfold Builtin.Dict_items.newIterator
 refine b5 (Z1 ho hdat ?_)
 refine b5 (aW ho hdat ?_)
 have hown:M3 "dict_itemiterator"=true:=by decide
 simp only[hown,if_true]
 refine A1 (d5 ⟨_,rfl,"dict_itemiterator",_,⟨_,n5 _ rfl,rfl⟩,F.slot_dict_itemiterator_next.lookup,?_⟩)
  (by simp only[sizeOk,dc,j0,n8,p4,M4,K3];lia)
 simpa [V7,dc] using hQ
variable {it:Addr}{i:Nat}{ov:b8}
theorem sd {en:N3}{ok:b8}{Q:Option b8->b9->Prop} (hit:bo s.heap it d i es.size ep ok ov)
  (hod:s.heap.get? d=some od) (hdd:od.data=.dict es ep) (hx:es[i]?=some en)
  (hQ:∀h',ye h' it d (i+1) es.size ep en.key en.val s.heap.objs.size->h'.get? s.heap.objs.size=some { cls:=.type "tuple",data:=.seq #[en.key,en.val] }->h'.objs.size=s.heap.objs.size+1 ->
   (∀b o,b≠it->s.heap.get? b=some o->h'.get? b=some o)->Q (some (.ref s.heap.objs.size)) { s with heap:=h' }):i5 (n0 prog w) A (ah (.ref it)) Q E s:=by
 obtain ⟨hp,g,dr,tk,os⟩:=s
 have hT:gO ⟨hp,g,dr,tk,os⟩ (.ref it) "dict_itemiterator":=⟨_,hit,rfl⟩
 unfold ah
 refine b5 (U5 (A4 (name:=O1 "__next__") hT W6
  (y6 W6 hT nX ?_ (mJ _))))
 refine b5 (d5 ?_)
 refine b5 ?_
 refine b5 ?_
 first|refine b5 (V4 hT (d5 ?_))|refine b5 (aG hT (d5 ?_))
 refine b5 (jL hit rfl ?_)
 have hown:M3 "dict_itemiterator"=true:=by decide
 simp only[hown,if_true]
 show i5 _ _ (if (j3 d == A5)=true then _ else _) _ _ _
 rw[if_neg (show ¬ ((j3 d == A5)=true) from n9)]
 refine b5 (d5 ?_)
 refine b5 (Z1 hod hdd ?_)
 rw[if_neg (by simp)]
 refine b5 (d5 ?_)
 refine b5 (aW hod hdd ?_)
 rw[if_neg (by simp)]
 refine d5 ?_
 obtain ⟨hlt',hen⟩:=Array.getElem?_eq_some_iff.mp hx
 simp only[show ¬ ((i:Int)<0) from by lia,if_false,S8,hx]
 refine b5 ?_
 first|refine b5 (V4 hT (d5 ?_))|refine b5 (aG hT (d5 ?_))
 refine b5 (gN hT ?_)
 show i5 _ _ (jM (.ref it) 3 (V7 ((i:Int)+1)) >>= _) _ _ ⟨hp,g,dr,tk,os⟩
 refine b5 (B1 hit (by simp) fun h1 he1 s1=>?_)
 replace s1:D0 it hp h1:=s1
 replace he1:bo h1 it d (i+1) es.size ep ok ov:=by
  have e:((i+1:Nat):Int)=(i:Int)+1:=by lia
  unfold bo;rw[e];simpa [V7] using he1
 have hT1:gO ⟨h1,g,dr,tk,os⟩ (.ref it) "dict_itemiterator":=⟨_,he1,rfl⟩
 refine b5 (M7 ?_)
 refine b5 (gN hT1 ?_)
 refine b5 (gN hT1 ?_)
 show i5 _ _ (dZ (.ref it) 6 en.key en.val) _ _ ⟨h1,g,dr,tk,os⟩
 unfold dZ
 refine b5 (eh ?_)
 have he2:bo (h1.push { cls:=.type "tuple",data:=.seq #[en.key,en.val] }) it d (i+1) es.size ep ok ov:=d6 _ he1
 generalize hh2:h1.push { cls:=.type "tuple",data:=.seq #[en.key,en.val] }=h2 at he2
 have hz1:h1.objs.size=hp.objs.size:=s1.1
 have hil:it<hp.objs.size:=i4 hit
 have ht2:h2.get? hp.objs.size=some { cls:=.type "tuple",data:=.seq #[en.key,en.val] }:=by rw[<- hh2,<- hz1];exact n5 _ rfl
 have hz2:h2.objs.size=hp.objs.size+1:=by rw[<- hh2,C0,hz1]
 have hk2:∀b o,b≠it->hp.get? b=some o->h2.get? b=some o:=fun b o hb e=>by rw[<- hh2];exact d6 _ (s1.extBut b o hb e)
 show i5 _ _ (cZ (.ref it) >>= _) _ _ ⟨h2,g,dr,tk,os⟩
 rw[hz1]
 clear hh2 he1 s1 hT1 hz1 h1
 refine b5 ?_
 unfold cZ
 refine b5 (y4 he2 rfl (x:=.none) rfl (d5 ?_))
 simp only[if_true]
 refine b5 (y4 he2 rfl (x:=ok) rfl ?_)
 refine b5 (y4 he2 rfl (x:=ov) rfl ?_)
 refine b5 (B1 he2 (by simp) fun h3 he3 s3=>?_)
 replace s3:D0 it h2 h3:=s3
 replace he3:bo h3 it d (i+1) es.size ep en.key ov:=he3
 refine b5 (B1 he3 (by simp) fun h4 he4 s4=>?_)
 replace s4:D0 it h3 h4:=s4
 replace he4:bo h4 it d (i+1) es.size ep en.key en.val:=he4
 refine b5 (B1 he4 (by simp) fun h5 he5 s5=>?_)
 replace s5:D0 it h4 h5:=s5
 replace he5:ye h5 it d (i+1) es.size ep en.key en.val hp.objs.size:=he5
 refine b5 (B1 he5 (by simp) fun h6 he6 s6=>?_)
 replace s6:D0 it h5 h6:=s6
 replace he6:ye h6 it d (i+1) es.size ep en.key en.val hp.objs.size:=he6
 refine b5 (sT (d5 (d5 ⟨_,rfl,d5 (hQ h6 he6 ?_ ?_ ?_)⟩)))
 ·exact s6.extBut _ _ (B4 hil) (s5.extBut _ _ (B4 hil) (s4.extBut _ _ (B4 hil) (s3.extBut _ _ (B4 hil) ht2)))
 ·show h6.objs.size=hp.objs.size+1
  rw[s6.1,s5.1,s4.1,s3.1,hz2]
 ·exact fun b o hb e=>s6.extBut b o hb (s5.extBut b o hb (s4.extBut b o hb (s3.extBut b o hb (hk2 b o hb e))))
theorem uN {ok:b8}{Q:Option b8->b9->Prop} (hh:A.handled=none) (hit:bo s.heap it d i es.size ep ok ov)
  (hod:s.heap.get? d=some od) (hdd:od.data=.dict es ep) (hge:es.size<=i) (hQ:∀h',gI it s.heap h'->Q none { s with heap:=h' }):i5 (n0 prog w) A (ah (.ref it)) Q E s:=by
 have hT:s.TypeIs (.ref it) "dict_itemiterator":=⟨_,hit,rfl⟩
 unfold ah
 refine b5 (U5 (A4 (name:=O1 "__next__") hT W6
  (y6 W6 hT nX ?_ (mJ _))))
 refine b5 (d5 ?_)
 refine b5 ?_
 refine b5 ?_
 first|refine b5 (V4 hT (d5 ?_))|refine b5 (aG hT (d5 ?_))
 refine b5 (jL hit rfl ?_)
 have hown:M3 "dict_itemiterator"=true:=by decide
 simp only[hown,if_true]
 show i5 _ _ (if (j3 d == A5)=true then _ else _) _ _ s
 rw[if_neg (show ¬ ((j3 d == A5)=true) from n9)]
 refine b5 (d5 ?_)
 refine b5 (Z1 hod hdd ?_)
 rw[if_neg (by simp)]
 refine b5 (d5 ?_)
 refine b5 (aW hod hdd ?_)
 rw[if_neg (by simp)]
 refine d5 ?_
 simp only[show ¬ ((i:Int)<0) from by lia,if_false,S8,aP hge]
 refine b5 ?_
 first|refine b5 (V4 hT (d5 ?_))|refine b5 (aG hT (d5 ?_))
 show i5 _ _ (jM (.ref it) 2 .none >>= _) _ _ s
 refine b5 (V5 hit rfl (by simp) ?_)
 show i5 _ _ (Av (.type "StopIteration") [] >>= _) _ _ _
 refine b5 ?_
 simp only[Av,CC]
 refine b5 (A1 ?_ (by size_fits))
 refine b5 (m:=bM _ _) (CA (a:=A5) (by first|rfl | (simp only[bM];rfl)) ?_)
 refine A1 ?_ (by size_fits)
 simp only[raiseNew]
 refine b5 (xT ?_)
 rw[show A.in1.handled=none from hh]
 refine b5 (d5 (Cz ?_))
 refine b5 (V6 (T:="StopIteration") (b:=true) ⟨_,n5 _ rfl,rfl⟩ jO ?_)
 exact d5 (hQ _ (((G7 ..).extBut.push _).push _))
theorem fG:entryFor table "dict_itemiterator.__iter__"=some Z3.«dict_keyiterator.__iter__»:=entryFor_alias (id':="dict_keyiterator.__iter__") (by kernel_rfl) rfl (by decide +kernel) (by kernel_rfl)
theorem mD {n:Nat}{ok:b8}(h:bo s.heap it d i n ep ok ov) (q:Q (.ref it) s):i5 (n0 prog w) A (jN (.ref it)) Q E s:=by
 have hT:s.TypeIs (.ref it) "dict_itemiterator":=⟨_,h,rfl⟩
 refine nJ hT qC (y6 qC hT fG ?_ (F.args_dict_itemiterator_iter_1 _))
 exact d5 ⟨_,rfl,"dict_itemiterator",_,hT,F.slot_dict_itemiterator_next.lookup,q⟩
end
section
variable {X:Cx}{pins:List (Addr × Obj)}{σ:St}{H:Hp}{s:b9}
theorem Paired.get {α β:Type}{F:α->β->Prop}:∀{l:List α}{m:List β}{i:Nat}{a:α},bO F l m->l[i]?=some a->∃b,m[i]?=some b/\F a b
 | _::_,_::_,0,_,.cons r _,h=>by cases h;exact ⟨_,rfl,r⟩
 | _::_,_::_,i+1,_,.cons _ t,h=>by
  obtain ⟨b,e,r⟩:=Paired.get (i:=i) t (by simpa using h)
  exact ⟨b,by simpa using e,r⟩
end
section
variable {X:Cx}
end
section
theorem wk2 {σ0:St} (hσ:σ0[0]?=some none/\σ0[1]?=some none) (x y:V):Wk σ0 ((σ0.set 0 (some x)).set 1 (some y)):=by
 refine ⟨by simp,fun j u e=>?_⟩
 by_cases h1:j=1
 ·subst h1;rw[hσ.2] at e;cases e
 ·rw[F0 (G8 h1)]
  by_cases h2:j=0
  ·subst h2;rw[hσ.1] at e;cases e
  ·rw[F0 (G8 h2)];exact e
end
end L2
namespace Mt
noncomputable def fr (q:Rat):List Int:=[q.num,(q.den:Int)]
noncomputable def cut (t b:Int):Rat:=mkRat t b.toNat
variable {b:Int}
theorem qb {t:Int} (hb:0<b):(cut t b).num=t / (O4 t b:Int):=by
 have h:b.toNat≠0:=by lia
 unfold cut
 rw[jC,dif_neg h,Rat.num_normalize]
 have e:b.toNat=b.natAbs:=by lia
 rw[e];rfl
theorem wx {t:Int} (hb:0<b):((cut t b).den:Int)=b / (O4 t b:Int):=by
 have h:b.toNat≠0:=by lia
 unfold cut
 rw[jC,dif_neg h,Rat.den_normalize]
 have e:b.toNat=b.natAbs:=by lia
 rw[e,Int.natCast_ediv]
 have e2:((b.natAbs:Nat):Int)=b:=by lia
 rw[e2];rfl
theorem zM {t:Int} (hb:0<b):fr (cut t b)=[t / (O4 t b:Int),b / (O4 t b:Int)]:=by
 unfold fr;rw[qb hb,wx hb]
theorem wt (p q:Rat):cut (p.num*q.num) ((p.den:Int)*(q.den:Int))=p*q:=by
 unfold cut
 rw[Rat.mul_def,jC]
 have e:((p.den:Int)*(q.den:Int)).toNat=p.den*q.den:=by rw[<- X2];rfl
 have hp:=p.den_nz;have hq:=q.den_nz
 have h:p.den*q.den≠0:=X0 hp hq
 rw[dif_neg (by rw[e];exact h)]
 congr 1
theorem wz (p q:Rat):cut (p.num*(q.den:Int)+q.num*(p.den:Int)) ((p.den:Int)*(q.den:Int))=p+q:=by
 unfold cut
 rw[Rat.add_def,jC]
 have e:((p.den:Int)*(q.den:Int)).toNat=p.den*q.den:=by rw[<- X2];rfl
 have hp:=p.den_nz;have hq:=q.den_nz
 have h:p.den*q.den≠0:=X0 hp hq
 rw[dif_neg (by rw[e];exact h)]
 congr 1
variable {c:Int}
theorem qc {a:Int} (hc:0<c):cut a c+cut b c=cut (a+b) c:=by
 unfold cut
 have h:c.toNat≠0:=by lia
 rw[Rat.mkRat_add_mkRat _ _ h h,CG (X0 h h) h]
 have e:((c.toNat:Nat):Int)=c:=by lia
 rw[X2,e]
 grind
theorem lM (hc:0<c):cut 0 c=0:=by
 unfold cut
 rw[Rat.mkRat_eq_zero (by lia)]
theorem zW (hc:0<c):cut c c=1:=by
 unfold cut
 have h:c.toNat≠0:=by lia
 have e:((c.toNat:Nat):Int)=c:=by lia
 have:mkRat c c.toNat=mkRat 1 1:=by
  rw[CG h (by decide),e];grind
 rw[this];rfl
structure Bd (n:Nat) (q:Rat):Prop where
 num:q.num.natAbs<=2 ^ n
 den:q.den<=2 ^ n
theorem eZ (a:Int) (g:Nat):(a / (g:Int)).natAbs<=a.natAbs:=by
 rcases Nat.eq_zero_or_pos g with h|h
 ·subst h;simp
 ·have h0:(0:Int)<g:=by lia
  rcases Int.le_total 0 a with ha|ha
  ·have h1:0<=a / (g:Int):=EC ha (by lia)
   have h2:a / (g:Int)<=a:=Int.ediv_le_self _ ha
   lia
  ·have h1:a<=a / (g:Int):=by
    rw[Int.le_ediv_iff_mul_le h0]
    have:a*(g:Int)<=a*1:=Int.mul_le_mul_of_nonpos_left ha (by lia)
    lia
   have h2:a / (g:Int)<=0:=by
    have:=Int.ediv_le_ediv h0 ha
    simpa using this
   lia
theorem Bd.cut {t b:Int}{n:Nat} (hb:0<b) (h1:t.natAbs<=2 ^ n) (h2:b.natAbs<=2 ^ n):Bd n (Mt.cut t b):=by
 refine ⟨?_,?_⟩
 ·rw[qb hb];exact f9 (eZ _ _) h1
 ·have:=wx (t:=t) hb
  have l:=eZ b (O4 t b)
  lia
noncomputable def N7:List Int->List Int->List Int:=HD (·+·)
noncomputable def Q0 (ns:List Int) (k:Nat):Rat:=cut (ns.getD k 0) ns.sum
structure Y9 (n m:Nat) (ns:List Int):Prop where
 len:ns.length=n
 nn:∀x∈ns,0<=x/\x<=m
 pos:0<ns.sum
structure zZ (n m:Nat) (r:List Int):Prop where
 len:r.length=n
 nn:∀x∈r,0<=x/\x<=m
structure jW (n m:Nat) (rs:List (List Int)):Prop where
 len:rs.length=n
 row:∀r∈rs,zZ n m r
theorem jW.at {n m:Nat}{rs:List (List Int)} (h:jW n m rs) {k:Nat} (hk:k<n):zZ n m (rs.getD k []):=by
 have hk':k<rs.length:=by rw[h.len];exact hk
 have:rs.getD k []=rs[k]:=by rw[t8,d0 hk'];rfl
 rw[this];exact h.row _ (C4 hk')
theorem cm:∀{l:List Int},(∀x∈l,0<=x)->0<=l.sum
 | [],_=>by simp
 | a::l,h=>by
  rw[P8]
  have h1:=h a f7
  have h2:=cm fun x hx=>h x (i3 _ hx)
  lia
theorem sum_le {m:Int}:∀{l:List Int},(∀x∈l,x<=m)->l.sum<=m*(l.length:Int)
 | [],_=>by simp
 | a::l,h=>by
  rw[P8,p4]
  have h1:=h a f7
  have h2:=sum_le fun x hx=>h x (i3 _ hx)
  have e:m*((l.length+1:Nat):Int)=m*(l.length:Int)+m:=by rw[EB,Int.mul_add];simp
  lia
theorem lO:∀{a b:List Int},a.length=b.length->(N7 a b).sum=a.sum+b.sum
 | [],[],_=>by simp[N7]
 | x::a,y::b,h=>by
  have ih:=lO (a:=a) (b:=b) (by simpa using h)
  show ((x+y)::N7 a b).sum=_
  rw[P8,P8,P8,ih];lia
 | [],_::_,h=>by simp at h
 | _::_,[],h=>by simp at h
theorem sP:∀{a b:List Int}{x:Int},x∈N7 a b->∃y∈a,∃z∈b,x=y+z
 | [],b,x,h=>by simp[N7] at h
 | _::_,[],x,h=>by simp[N7] at h
 | p::a,q::b,x,h=>by
  rcases List.mem_cons.mp (show x∈(p+q)::N7 a b from h) with e|h
  ·exact ⟨p,f7,q,f7,e⟩
  ·obtain ⟨y,hy,z,hz,e⟩:=sP h
   exact ⟨y,i3 _ hy,z,i3 _ hz,e⟩
variable {ns:List Int}
theorem Y9.add {n m j:Nat}{r:List Int} (h:Y9 n m ns) (hr:zZ n j r):Y9 n (m+j) (N7 ns r):=by
 have hl:ns.length=r.length:=by rw[h.len,hr.len]
 refine ⟨?_,fun x hx=>?_,?_⟩
 ·unfold N7;rw[aa,h.len,hr.len];lia
 ·obtain ⟨y,hy,z,hz,e⟩:=sP hx
  have:=h.nn y hy;have:=hr.nn z hz;lia
 ·rw[lO hl]
  have:=cm (l:=r) fun x hx=>(hr.nn x hx).1
  have:=h.pos;lia
theorem Y9.getD {n m:Nat}{ns:List Int} (h:Y9 n m ns) (k:Nat):0<=ns.getD k 0/\ns.getD k 0<=m:=by
 rw[t8]
 cases e:ns[k]? with
 | none=>simp
 | some x=>exact h.nn x (t7 e)
noncomputable def Am (ns:List Int) (i:Nat):Rat:=cut (ns.take i).sum ns.sum
theorem yN (h:0<ns.sum):Am ns 0=0:=by unfold Am;simp[lM h]
theorem rB (h:0<ns.sum) (i:Nat):Am ns (i+1)=Am ns i+Q0 ns i:=by
 unfold Am Q0
 rw[qc h]
 congr 1
 rw[t6,CJ,t8]
 cases ns[i]? <;> simp
theorem vG (h:0<ns.sum):Am ns ns.length=1:=by
 unfold Am;rw[u5,zW h]
noncomputable def P9:List Rat->Rat
 | []=>0
 | q::r=>q+P9 r
theorem ae:∀a b:List Rat,P9 (a++b)=P9 a+P9 b
 | [],b=>by show P9 b=0+P9 b;grind
 | q::a,b=>by show q+P9 (a++b)=q+P9 a+P9 b;rw[ae a b];grind
end Mt
namespace Md
open PySem PySem.Spec L2 Mt
noncomputable abbrev Tab:=List (List Int × Int)
noncomputable def kI (ns:List Int):List V3:=ns.map bh
theorem bK (ns:List Int):(kI ns).map kV=ns.map V.int:=by
 unfold kI;rw[B6];rfl
theorem fe:∀{a b:List Int},kI a=kI b->a=b
 | [],[],_=>rfl
 | [],_::_,h=>by cases h
 | _::_,[],h=>by cases h
 | x::a,y::b,h=>by
  have h':(bh x:V3)::kI a=bh y::kI b:=h
  injection h' with h1 h2
  injection h1 with h1
  rw[h1,fe h2]
noncomputable def lin (D:Tab) (φ:List Int->Int):Int:=(D.map fun p=>p.2*φ p.1).sum
noncomputable def mF (rs:List (List Int)) (i:Nat):List Int->Nat->Int
 | [],_=>0
 | c::cs,j=>c*(rs.getD j []).getD i 0+mF rs i cs (j+1)
noncomputable def qG (u:List Int) (rs:List (List Int)) (c:List Int):List Int:=(G5 u.length).map fun i=>u.getD i 0+mF rs i c 0
noncomputable def EL (c:List Int) (i:Nat):List Int:=c.set i (c.getD i 0+1)
theorem sy (rs:List (List Int)) (i:Nat):∀(c:List Int) (j k:Nat),k<c.length->mF rs i (EL c k) j=mF rs i c j+(rs.getD (j+k) []).getD i 0
 | [],_,_,h=>by simp at h
 | x::c,j,0,_=>by
  show (x+1)*_+mF rs i c (j+1)=x*_+mF rs i c (j+1)+_
  rw[Int.add_mul];simp;lia
 | x::c,j,k+1,h=>by
  have ih:=sy rs i c (j+1) k (by simpa using h)
  show x*_+mF rs i (EL c k) (j+1)=x*_+mF rs i c (j+1)+_
  rw[ih,show j+1+k=j+(k+1) by lia];lia
theorem BM {n:Nat}{u c:List Int}{rs:List (List Int)}{k:Nat} (hu:u.length=n) (hc:c.length=n) (hR:jW n 5 rs) (hk:k<n):qG u rs (EL c k)=N7 (qG u rs c) (rs.getD k []):=by
 have hr:=hR.at hk
 have l1:(qG u rs c).length=n:=by unfold qG;simp[hu]
 apply jZ
 intro i
 unfold N7
 rw[fJ]
 unfold qG
 rw[m7,m7]
 by_cases hi:i<n
 ·rw[iJ (by lia)]
  rw[d0 (l:=rs.getD k []) (by rw[hr.len];exact hi)]
  simp only[aj]
  rw[sy rs i c 0 k (by lia),S6]
  congr 1
  rw[show (rs.getD k []).getD i 0=(rs.getD k [])[i]'(by rw[hr.len];exact hi) by rw[t8 (l:=rs.getD k []),d0 (by rw[hr.len];exact hi)];rfl]
  lia
 ·rw[bD (by simp;lia)]
  simp
theorem nE (rs:List (List Int)) (i:Nat):∀(n j:Nat),mF rs i (E4 n 0) j=0
 | 0,_=>rfl
 | n+1,j=>by
  show (0:Int)*_+mF rs i (E4 n 0) (j+1)=0
  rw[nE rs i n (j+1)];lia
theorem sL (u:List Int) (rs:List (List Int)) (n:Nat):qG u rs (E4 n 0)=u:=by
 unfold qG
 apply jZ
 intro i
 rw[m7]
 by_cases hi:i<u.length
 ·rw[iJ hi,aj,nE,t8,d0 hi];simp
 ·rw[bD (by simp;lia),bD (by lia)];rfl
end Md
namespace L2
open PySem PySem.Spec PyProof.Rows
noncomputable abbrev lit (t:Addr):Obj:={ cls:=.type "list_iterator",data:=.fields #[.ref t,.int 0 0] }
section
variable {X:Cx}
end
section
variable {X:Cx}{K:m6}
end
section
variable {prog:f6}{w:j6}{A:r6}{E:b8->b9->Prop}{s:b9}
end
section
variable {X:Cx}
end
theorem DV {CX:tG}{P:f6}{w:j6}{K:m6}{mg:Str->Option b8}{base:Heap}{f:Addr}{name qual:Str}{params:Im}{body:List Stmt}{scope:Q2}{dV kV doc pm cdv ct oc:b8}{an od:Option Addr}
  {osl:Array (Option b8)}{N ps:List Str}{sp:Sp} (lk:K.lookup f=some ⟨oc,od,.func (fU name qual params body scope dV kV doc pm an cdv ct),osl⟩) (hcd:mi K cdv qual=true) (S:A2 N ps scope)
  (len:∀vs H Q E,sp vs H Q E->vs.length=ps.length)
  (hbody:∀(A:r6) (outer:List Env) (s:b9) (H:Hp) (vs:List V) (Q:VK) (E:XK),sp vs H Q E ->
   ∃t,qv (dW CX P w K mg base N qual scope f cdv A outer s H E) body t/\t { nx:=fun _ H'=>Q .non H',rt:=Q } (start N vs) H):
  L3 P w K mg base CX 0 f (fU name qual params body scope dV kV doc pm an cdv ct) ps sp:=by
 refine ⟨len,fun A outer s H args us vs Q E hr e0 hb r hsp=>?_⟩
 have hl:=len _ _ _ _ hsp
 have KX:K.In s.heap:=e0.mod.kin.keeps fun b o e=>(e0.bs b o e).1
 have lim:s.heap.NoLimit:=e0.mod.nolimit.keeps fun b o e=>(e0.bs b o e).1
 have hkind:∀y∈ps.zip us,scope.names.lookup y.1=some .local ∨ (scope.names.lookup y.1=some .cell/\((L4 (s.heap.objs.size+1) scope.names []).lookup y.1).isSome=true):=fun ⟨n,v⟩ hy=>by
  rcases S.par n (fC hy).1 with q|q
  ·exact .inl q
  ·exact .inr ⟨q,nU _ _ _ (.inl q)⟩
 refine Ca hr.depth (KX _ _ lk) rfl S.co S.gen rfl (W.codeRec_of KX hcd) (hb _ _ _ _ ?_)
 refine wG S.kind hkind fun env he s1 x=>?_
 subst he
 refine ⟨lim.keeps x.toInCall.keep,codeAny_func ?_⟩
 obtain ⟨t,ht,hq⟩:=hbody A outer s H vs Q E hsp
 have I:A9 (dW CX P w K mg base N qual scope f cdv A outer s H E) [] (start N vs) H s1:=nC S hr.hd e0 hl r x
 refine F9 (ht [] s1 (start N vs) H _ I hq) (fun fl s' hs=>?_) fun e s' hs=>hs
 have fin:∀{σ':St}{H':Hp}{v:V}{u:b8},A9 (dW CX P w K mg base N qual scope f cdv A outer s H E) [] σ' H' s'->J3 v u->Q v H'->CE outer P w H s Q u s' :=
  fun {σ' H' v u} J rv q=>⟨v,H',J.os,J.bare,J.base,J.hok,rv,q⟩
 cases fl with
 | ret u =>
  obtain ⟨v,σ',H',J,rv,q⟩:=hs
  exact fin J rv q
 | next =>
  obtain ⟨σ',H',J,q⟩:=hs
  exact fin (v:=V.non) (u:=A5) J rfl q
 | brk =>
  obtain ⟨_,_,_,q⟩:=hs
  exact U8 q
 | cont =>
  obtain ⟨_,_,_,q⟩:=hs
  exact U8 q
theorem bC.ok0 {P:f6}{w:j6}{K:m6}{mg:Str->Option b8}{base:Heap}{x qual:Str}{st:Stmt}{f:Addr}{fd:A7}{N ps:List Str}{sp:Sp} (F:bC K x qual st f fd) (S:A2 N ps (u0 st)) (len:∀vs H Q E,sp vs H Q E->vs.length=ps.length)
  (hbody:∀(cdv:b8) (A:r6) (outer:List Env) (s:b9) (H:Hp) (vs:List V) (Q:VK) (E:XK),sp vs H Q E ->
   ∃t,qv (dW dA P w K mg base N qual (u0 st) f cdv A outer s H E).nox (ba st) t/\t { nx:=fun _ H'=>Q .non H',rt:=Q } (start N vs) H):L3 P w K mg base dA 0 f fd ps sp:=by
 obtain ⟨oc,od,kV,doc,pm,an,cdv,ct,osl,rfl,lk,hcd⟩:=F.ex
 refine DV lk hcd S len fun A outer s H vs Q E hsp=>?_
 obtain ⟨t,h,q⟩:=hbody cdv A outer s H vs Q E hsp
 exact ⟨t,h.nox,q⟩
section
variable {X:Cx}
end
end L2
namespace G
open PySem PySem.Spec PyProof.Rows L2 Mt
structure sR (K:m6) (mg:Str->Option b8) (c:Nat->Addr) (B:Addr):Prop where
 e0:mg "NoUrn"=some (.ref (c 0))
 e1:mg "NoRule"=some (.ref (c 1))
 e2:mg "NoKind"=some (.ref (c 2))
 e5:mg "NoNumber"=some (.ref (c 5))
 e8:mg "NotAlike"=some (.ref (c 8))
 xc:∀i,i<10->XC K (c i)
noncomputable def ef (i:Nat):Stmt:=PySem.Challenge.pw_growurns_k83_whole_two_urns.main.body.getD i (.Pass ⟨0,0,0,0⟩)
structure Bt (mg:Str->Option b8):Prop where
 isinstance:mg "isinstance"=none
 bool:mg "bool"=none
 int:mg "int"=none
 tuple:mg "tuple"=none
 list:mg "list"=none
 all:mg "all"=none
 sum:mg "sum"=none
 len:mg "len"=none
 range:mg "range"=none
 max:mg "max"=none
 min:mg "min"=none
 abs:mg "abs"=none
 zip:mg "zip"=none
noncomputable def X3 (lo hi:Int):w6->Bool
 | .int i=>decide (lo<=i)&&decide (i<=hi)
 | _=>false
section
variable {P:f6}{w:j6}{K:m6}{mg:Str->Option b8}{base:Heap}{f:Addr}{fd:A7}
noncomputable def numD:w6->Bool
 | .int _=>true
 | _=>false
noncomputable def dI:Sp:=fun vs H Q _=>∃(v:V) (st:Addr) (d:w6),vs=[v]/\Dt st H d v/\Q (.bl (numD d)) H
noncomputable abbrev eP:Stmt:=ef 8
theorem oD:A2 ["thing"] ["thing"] (u0 eP):=⟨rfl,rfl,rfl,by decide +kernel,rfl,by decide +kernel,by decide +kernel⟩
theorem pC (F:bC K "is_number" "is_number" eP f fd) (B:Bt mg):L3 P w K mg base dA 0 f fd ["thing"] dI:=by
 refine F.ok0 oD (fun vs H Q E h=>?_) (fun cdv A outer s H vs Q E h=>?_)
 ·obtain ⟨v,st,d,rfl,_⟩:=h
  rfl
 obtain ⟨v,st,d,rfl,hd,q⟩:=h
 refine ⟨_,q5 (B8 (jg (A0 (iw BA) rfl B.isinstance iI (b6 (pv 0) (b6 (oY rfl B.int CD) d8)))
  (jf (DB (A0 (iw zF) rfl B.isinstance iI (b6 (pv 0) (b6 (oY rfl B.bool boot_bool) d8))))))),?_⟩
 refine ⟨_,rfl,v,st,d,rfl,hd,_,rfl,?_⟩
 cases d with
 | bool b=>exact ⟨_,rfl,v,st,_,rfl,hd,_,rfl,q⟩
 | int i=>exact ⟨_,rfl,v,st,_,rfl,hd,_,rfl,q⟩
 | none=>exact q
 | str x=>exact q
 | list ds=>exact q
 | tuple ds=>exact q
 | dict kvs=>exact q
noncomputable def bu:Sp:=fun vs H Q _=>∃(v:V) (st:Addr) (d:w6) (lo hi:Int),vs=[v,.int lo,.int hi]/\Dt st H d v/\Q (.bl (X3 lo hi d)) H
noncomputable abbrev gi:Stmt:=ef 9
theorem rl:A2 ["thing","low","high"] ["thing","low","high"] (u0 gi):=⟨rfl,rfl,rfl,by decide +kernel,rfl,by decide +kernel,by decide +kernel⟩
theorem rM (F:bC K "is_whole" "is_whole" gi f fd) (c1:U4 P w K mg base 0 "is_number" ["thing"] dI):L3 P w K mg base dA 1 f fd ["thing","low","high"] bu:=by
 refine F.ok rl (fun vs H Q E h=>?_) (fun cdv A outer s H vs Q E hr h=>?_)
 ·obtain ⟨v,st,d,lo,hi,rfl,_⟩:=h
  rfl
 obtain ⟨v,st,d,lo,hi,rfl,hd,q⟩:=h
 refine ⟨_,q5 (B8 (jg (w5 c1 hr rfl (b6 (pv 0) d8)) (jf (rH vO vO (pv 1) (pv 0) (pv 2))))),?_⟩
 refine ⟨_,rfl,v,st,d,rfl,hd,_,rfl,?_⟩
 cases d with
 | int i =>
  refine bB ?_
  unfold Dt at hd
  subst hd
  refine ⟨_,rfl,_,rfl,lo,i,rfl,rfl,_,rfl,?_⟩
  have q':Q (.bl (decide (lo<=i)&&decide (i<=hi))) H:=q
  by_cases h1:lo<=i
  ·rw[decide_eq_true h1,ar] at q'
   rw[decide_eq_true h1]
   exact bB ⟨_,rfl,i,hi,rfl,rfl,q'⟩
  ·rw[decide_eq_false h1,Q7] at q'
   rw[decide_eq_false h1]
   exact ak q'
 | bool b=>exact q
 | none=>exact q
 | str x=>exact q
 | list ds=>exact q
 | tuple ds=>exact q
 | dict kvs=>exact q
noncomputable def R1 (lo hi:Int):w6->Bool
 | .tuple ds=>ds.all (X3 lo hi)
 | _=>false
noncomputable def aX:Sp:=fun vs H Q _=>∃(v:V) (st:Addr) (d:w6) (lo hi:Int),vs=[v,.int lo,.int hi]/\Dt st H d v/\(∀ds,d=.tuple ds->ds.length<=1000)/\∀H',j4 H H'->Q (.bl (R1 lo hi d)) H'
noncomputable abbrev dP:Stmt:=ef 10
theorem mz:A2 ["thing","low","high"] ["thing","low","high"] (u0 dP):=⟨rfl,rfl,rfl,by decide +kernel,rfl,by decide +kernel,by decide +kernel⟩
theorem mB (F:bC K "are_wholes" "are_wholes" dP f fd) (B:Bt mg) (c1:U4 P w K mg base 1 "is_whole" ["thing","low","high"] bu):L3 P w K mg base dA 2 f fd ["thing","low","high"] aX:=by
 refine F.ok mz (fun vs H Q E h=>?_) (fun cdv A outer s H vs Q E hr h=>?_)
 ·obtain ⟨v,st,d,lo,hi,rfl,_⟩:=h
  rfl
 obtain ⟨v,st,d,lo,hi,rfl,hd,hl,q⟩:=h
 refine ⟨_,q5 (B8 (jg (A0 (iw vV) rfl B.isinstance iI (b6 (pv 0) (b6 (oY rfl B.tuple N0) d8)))
  (jf (A0 (dY rfl) rfl B.all boot_all (b6 (F5 (N:=["part","low","high"]) (ix:=[none,some 1,some 2]) (ifs:=[]) (tc:=M0) rfl (oW (pv 0))
   (fun s H ex=>Q5 (i:=0) (by decide +kernel) rfl (t5 rfl) (.inr rfl)) (fun s H ex=>D8) (fun s H ex=>w5 c1 hr rfl (b6 (pv 0) (b6 (pv 1) (b6 (pv 2) d8)))) rfl (by decide +kernel) (by rfl) (by rfl) (fun _=>rfl)) d8))))),?_⟩
 refine ⟨_,rfl,v,st,d,rfl,hd,_,rfl,?_⟩
 cases d with
 | tuple ds =>
  refine bB ?_
  obtain ⟨a,xs,rfl,ne,ha,hds⟩:∃a xs,v=.ref a/\a≠st/\H a=some (.tup xs)/\Q6 st H ds xs:=by unfold Dt at hd;exact hd
  have hlen:=hds.len
  have hl':=hl ds rfl
  refine ⟨_,rfl,a,rfl,⟨xs,.of ha⟩,qm (K:=K) (a:=a) (xs:=xs) (sz (by lia)) (fun i ys H2=>j4 H H2/\i<=ds.length/\ys=(ds.take i).map fun d=>V.bl (X3 lo hi d)) ⟨j4.refl H,j5 _,rfl⟩ (fun i ys H2 h=>?_) (fun i ys H2 _ h=>.of (h.1 _ _ ha)) rfl (fun i ys H2 x hx h=>?_) (fun ys H2 h=>?_)⟩
  ·obtain ⟨_,hi,rfl⟩:=h
   rw[b7,m8];lia
  ·obtain ⟨hS,hil,rfl⟩:=h
   obtain ⟨d,hd',dt⟩:=hds.get hx
   refine ⟨_,rfl,_,rfl,_,rfl,x,st,d,lo,hi,rfl,dt.kp (hS.kp st),hS,(List.getElem?_eq_some_iff.mp hd').1,?_⟩
   rw[t6,hd',j7];rfl
  ·obtain ⟨hS,hil,rfl⟩:=h
   intro p hp
   refine ⟨p,_,rfl,.inl (.of i6),?_,?_⟩
   ·rw[N9];exact List.all_eq_true.mpr fun _ _=>rfl
   ·have e:(((ds.take xs.length).map fun d=>V.bl (X3 lo hi d)).all kK)=R1 lo hi (.tuple ds):=by
     rw[<- hlen,u5,N9];rfl
    rw[e]
    exact q _ (hS.trans (j4.new hp))
 | _=>exact q H (j4.refl H)
end
structure Ct (mg:Str->Option b8):Prop where
 kinds:∃t,mg "MOST_KINDS"=some (.int 4 t)
 balls:∃t,mg "MOST_BALLS"=some (.int 20 t)
 puts:∃t,mg "MOST_PUT_IN"=some (.int 5 t)
variable {st:Addr}{H:Hp}{v:V}
theorem _root_.L2.Dt.untup {ds:List w6}(h:Dt st H (.tuple ds) v):∃a xs,v=.ref a/\a≠st/\H a=some (.tup xs)/\Q6 st H ds xs:=by unfold Dt at h;exact h
theorem _root_.L2.Dt.unint {i:Int}(h:Dt st H (.int i) v):v=.int i:=by unfold Dt at h;exact h
theorem kJ {lo hi:Int}{d:w6} (h:X3 lo hi d=true):∃i,d=.int i/\lo<=i/\i<=hi:=by
 cases d with
 | int i =>
  have h':(decide (lo<=i)&&decide (i<=hi))=true:=h
  rw[u7] at h'
  exact ⟨i,rfl,of_decide_eq_true h'.1,of_decide_eq_true h'.2⟩
 | _=>cases (show false=true from h)
theorem sN {lo hi:Int}:∀{ds:List w6},ds.all (X3 lo hi)=true->∃ns:List Int,ds=ns.map .int/\∀x∈ns,lo<=x/\x<=hi
 | [],_=>⟨[],rfl,by simp⟩
 | d::ds,h=>by
  rw[List.all_cons,u7] at h
  obtain ⟨i,e,h1,h2⟩:=kJ h.1
  obtain ⟨ns,e2,h3⟩:=sN h.2
  subst e e2
  exact ⟨i::ns,rfl,fun x hx=>by
   rcases List.mem_cons.mp hx with z|z
   ·subst z;exact ⟨h1,h2⟩
   ·exact h3 x z⟩
theorem dG {lo hi:Int}{d:w6} (h:R1 lo hi d=true):∃ns:List Int,d=DI ns/\∀x∈ns,lo<=x/\x<=hi:=by
 cases d with
 | tuple ds =>
  obtain ⟨ns,e,h2⟩:=sN (ds:=ds) h
  subst e
  exact ⟨ns,rfl,h2⟩
 | _=>cases (show false=true from h)
noncomputable def DU:w6->Int
 | .int i=>i
 | _=>0
noncomputable def bA:w6->Nat
 | .tuple ds=>ds.length
 | _=>0
noncomputable def FJ:w6->Int
 | .tuple ds=>(ds.map DU).sum
 | _=>0
theorem oo (ns:List Int):FJ (DI ns)=ns.sum:=by
 show ((ns.map E8).map DU).sum=ns.sum
 rw[B6]
 have e:(DU ∘ E8)=id:=by funext i;rfl
 rw[e,dF]
theorem aD (ns:List Int):bA (DI ns)=ns.length:=by show (ns.map E8).length=_;rw[b7]
noncomputable def br (m:Int) (d:w6):Bool:=R1 0 m d&&((decide ((1:Int)<=bA d)&&decide ((bA d:Int)<=4))&&decide ((0:Int)<FJ d))
noncomputable def fM (k:Int) (d:w6):Bool:=match d with
 | .tuple ds=>decide ((ds.length:Int)=k)&&ds.all (fun r=>R1 0 5 r&&decide ((bA r:Int)=k))
 | _=>false
noncomputable def cn (d:w6):Prop:=∀ds,d=.tuple ds->ds.length<=1000
section
variable {P:f6}{w:j6}{K:m6}{mg:Str->Option b8}{base:Heap}{f:Addr}{fd:A7}
noncomputable def bF:Sp:=fun vs H Q _=>∃(v:V) (st:Addr) (d:w6) (m:Int),vs=[v,.int m]/\Dt st H d v/\cn d/\∀H',j4 H H'->Q (.bl (br m d)) H'
noncomputable abbrev cq:Stmt:=ef 22
theorem jR:A2 ["thing","most"] ["thing","most"] (u0 cq):=⟨rfl,rfl,rfl,by decide +kernel,rfl,by decide +kernel,by decide +kernel⟩
theorem jT (F:bC K "is_urn_up_to" "is_urn_up_to" cq f fd) (B:Bt mg) (C:Ct mg) (c1:U4 P w K mg base 2 "are_wholes" ["thing","low","high"] aX):L3 P w K mg base dA 3 f fd ["thing","most"] bF:=by
 refine F.ok jR (fun vs H Q E h=>?_) (fun cdv A outer s H vs Q E hr h=>?_)
 ·obtain ⟨v,st,d,m,rfl,_⟩:=h
  rfl
 obtain ⟨v,st,d,m,rfl,hd,hl,q⟩:=h
 obtain ⟨tk,hk⟩:=C.kinds
 refine ⟨_,m9 (T5 (cQ (bG (w5 c1 hr rfl (b6 (pv 0) (b6 j9 (b6 (pv 1) d8)))))) (q5 (B8 eS)) J1)
  (q5 (B8 (jg (rH vO vO j9 (A0 J6 rfl B.len J9 (b6 (pv 0) d8)) (hZ (v:=.int 4) rfl hk ⟨tk,rfl⟩))
   (jf (cL rJ (A0 (aE rfl) rfl B.sum fT (b6 (pv 0) d8)) j9 (N4 _)))))),?_⟩
 refine ⟨_,rfl,_,rfl,v,st,d,0,m,rfl,hd,hl,fun H1 g1=>⟨_,rfl,?_⟩⟩
 have q1:=q H1 g1
 unfold br at q1
 cases hw:R1 0 m d with
 | false =>
  rw[hw,Q7] at q1
  exact bB q1
 | true =>
  rw[hw,ar] at q1
  refine ak ?_
  obtain ⟨ns,e,hns⟩:=dG hw
  subst e
  obtain ⟨a,e,ne,ha⟩:=hd.di
  subst e
  rw[aD,oo] at q1
  have ha1:=g1 _ _ ha
  refine ⟨_,rfl,a,_,rfl,.inr (.of ha1),_,_,rfl,rfl,_,rfl,?_⟩
  rw[b7]
  by_cases h1:(1:Int)<=(ns.length:Int)
  ·rw[decide_eq_true h1,ar] at q1
   rw[decide_eq_true h1]
   refine bB ⟨_,_,rfl,rfl,_,rfl,?_⟩
   by_cases h2:(ns.length:Int)<=4
   ·rw[decide_eq_true h2,ar] at q1
    rw[decide_eq_true h2]
    exact bB ⟨_,rfl,a,ns,rfl,.inr (.of ha1),_,_,rfl,rfl,q1⟩
   ·rw[decide_eq_false h2,Q7] at q1
    rw[decide_eq_false h2]
    exact ak q1
  ·rw[decide_eq_false h1,Q7,Q7] at q1
   rw[decide_eq_false h1]
   exact ak ⟨_,rfl,ak q1⟩
noncomputable def ft:Sp:=fun vs H Q _=>∃(v:V) (st:Addr) (d:w6),vs=[v]/\Dt st H d v/\cn d/\∀H',j4 H H'->Q (.bl (br 20 d)) H'
noncomputable abbrev lg:Stmt:=ef 21
theorem wZ:A2 ["thing"] ["thing"] (u0 lg):=⟨rfl,rfl,rfl,by decide +kernel,rfl,by decide +kernel,by decide +kernel⟩
theorem xl (F:bC K "is_urn" "is_urn" lg f fd) (C:Ct mg) (c1:U4 P w K mg base 3 "is_urn_up_to" ["thing","most"] bF):L3 P w K mg base dA 4 f fd ["thing"] ft:=by
 refine F.ok wZ (fun vs H Q E h=>?_) (fun cdv A outer s H vs Q E hr h=>?_)
 ·obtain ⟨v,st,d,rfl,_⟩:=h
  rfl
 obtain ⟨v,st,d,rfl,hd,hl,q⟩:=h
 obtain ⟨tk,hk⟩:=C.balls
 refine ⟨_,q5 (B8 (w5 c1 hr rfl (b6 (pv 0) (b6 (hZ (v:=.int 20) rfl hk ⟨tk,rfl⟩) d8)))),?_⟩
 exact ⟨_,rfl,v,st,d,20,rfl,hd,hl,q⟩
noncomputable def az (c:Nat->Addr):Sp:=fun vs H Q E=>∃(v:V) (st:Addr) (d:w6) (lo hi:Int),vs=[v,.int lo,.int hi]/\Dt st H d v/\Sm lo/\Sm hi/\(X3 lo hi d=true->Q .non H)/\(X3 lo hi d=false->E (.ref (c 5)) none H)
noncomputable abbrev cP:Stmt:=ef 11
theorem kW:A2 ["thing","low","high"] ["thing","low","high"] (u0 cP):=⟨rfl,rfl,rfl,by decide +kernel,rfl,by decide +kernel,by decide +kernel⟩
theorem lx {c:Nat->Addr}{B:Addr} (F:bC K "need_number" "need_number" cP f fd) (R:sR K mg c B) (c1:U4 P w K mg base 1 "is_whole" ["thing","low","high"] bu):L3 P w K mg base (jY P w) 2 f fd ["thing","low","high"] (az c):=by
 refine F.okX kW (fun vs H Q E h=>?_) (fun cdv A outer s H vs Q E hr h=>?_)
 ·obtain ⟨v,st,d,lo,hi,rfl,_⟩:=h
  rfl
 obtain ⟨v,st,d,lo,hi,rfl,hd,slo,shi,q1,q2⟩:=h
 refine ⟨_,q5 (T5 (cQ (bG (w5 c1 hr rfl (b6 (pv 0) (b6 (pv 1) (b6 (pv 2) d8)))))) (q5 (dj R.e5 (R.xc 5 (by decide)) (vL (oU (uk (pv 1) (oU (uk (pv 2) yQ))))) (fun σ H Q Q' m q=>?_))) J1),?_⟩
 ·obtain ⟨v1,z1,i1,z2,z3,z4,v2,z5,i2,z6,z7,z8,z9⟩:=q
  exact ⟨v1,z1,i1,z2,z3,z4,v2,z5,i2,z6,z7,z8,fun z=>m _ _ (z9 z)⟩
 refine ⟨_,rfl,_,rfl,_,rfl,v,st,d,lo,hi,rfl,hd,_,rfl,?_⟩
 cases hw:X3 lo hi d with
 | true=>exact ak (q1 hw)
 | false=>exact bB ⟨_,rfl,lo,rfl,slo.1,slo.2,_,rfl,hi,rfl,shi.1,shi.2,fun z=>q2 hw⟩
noncomputable def fX (c:Nat->Addr):Sp:=fun vs H Q E=>∃(u v:V) (st:Addr) (dk d:w6),vs=[u,v]/\Dt st H dk u/\(X3 1 4 dk=false->E (.ref (c 5)) none H) /\
 (∀k,dk=.int k->1<=k->k<=4->Dt st H d v/\cn d/\(∀ds,d=.tuple ds->∀r∈ds,cn r)/\∀H',j4 H H'->Q (.bl (fM k d)) H')
noncomputable abbrev iY:Stmt:=ef 23
theorem tX:A2 ["kinds","thing"] ["kinds","thing"] (u0 iY):=⟨rfl,rfl,rfl,by decide +kernel,rfl,by decide +kernel,by decide +kernel⟩
theorem sm1:Sm 1:=by unfold Sm;decide +kernel
theorem sm4:Sm 4:=by unfold Sm;decide +kernel
theorem uw {c:Nat->Addr} (F:bC K "is_rule" "is_rule" iY f fd) (B:Bt mg) (C:Ct mg) (c1:U4 P w K mg base 2 "are_wholes" ["thing","low","high"] aX) (c2:Z9 P w K mg base 2 "need_number" ["thing","low","high"] (az c)):L3 P w K mg base (jY P w) 3 f fd ["kinds","thing"] (fX c):=by
 refine F.okX tX (fun vs H Q E h=>?_) (fun cdv A outer s H vs Q E hr h=>?_)
 ·obtain ⟨u,v,st,dk,d,rfl,_⟩:=h
  rfl
 obtain ⟨u,v,st,dk,d,rfl,hu,qE,qQ⟩:=h
 obtain ⟨tk,hk⟩:=C.kinds
 obtain ⟨tp,hp⟩:=C.puts
 refine ⟨_,m9 (bS (O6 c2 hr rfl aA (b6 (pv 0) (b6 j9 (b6 (hZ (v:=.int 4) rfl hk ⟨tk,rfl⟩) d8)))))
  (qv.nox (m9 (T5 (PW.pt (Cp (cQ (bG (A0 (iw vV) rfl B.isinstance iI (b6 (pv 1) (b6 (oY rfl B.tuple N0) d8)))))
   (yL (P7 zc (A0 J6 rfl B.len J9 (b6 (pv 1) d8)) (pv 0) (N4 _))))) (q5 (B8 eS)) J1)
  (q5 (B8 (A0 (dY rfl) rfl B.all boot_all (b6 (F5 (N:=["row","kinds"]) (ix:=[none,some 0]) (ifs:=[]) (tc:=M0) rfl (oW (pv 1))
   (fun s H ex=>Q5 (i:=0) (by decide +kernel) rfl (t5 rfl) (.inr rfl)) (fun s H ex=>D8)
   (fun s H ex=>jg (w5 c1 hr rfl (b6 (pv 0) (b6 j9 (b6 (hZ (v:=.int 5) rfl hp ⟨tp,rfl⟩) d8)))) (jf (cL fO (A0 (lenK (K:=K) rfl) rfl B.len J9 (b6 (pv 0) d8)) (pv 1) (N4 _)))) rfl (by decide +kernel) (by rfl) (by rfl) (fun _=>rfl)) d8)))))),?_⟩
 refine ⟨_,rfl,u,st,dk,1,4,rfl,hu,sm1,sm4,fun hw=>?_,qE⟩
 obtain ⟨k,e,k1,k4⟩:=kJ hw
 subst e
 obtain rfl:=hu.unint
 obtain ⟨hd,hl,hl2,q⟩:=qQ k rfl k1 k4
 refine ⟨_,rfl,v,st,d,rfl,hd,_,rfl,?_⟩
 cases d with
 | tuple ds =>
  obtain ⟨a,xs,e,ne,ha,hds⟩:=hd.untup
  subst e
  have hlen:=hds.len
  have hl':=hl ds rfl
  refine ak ⟨_,rfl,a,xs,rfl,.inr (.of ha),_,rfl,rfl,_,rfl,?_⟩
  have q0:=fun H' g=>q H' g
  unfold fM at q0
  by_cases hk':(ds.length:Int)=k
  ·have e1:V.int (xs.length:Int)=V.int k:=by rw[<- hlen,hk']
   rw[decide_eq_true e1]
   refine ak ?_
   have q1:∀H',j4 H H'->Q (.bl (ds.all (fun r=>R1 0 5 r&&decide ((bA r:Int)=k)))) H':=fun H' g=>by
    have:=q0 H' g
    simp only[decide_eq_true hk',ar] at this
    exact this
   refine ⟨_,rfl,a,rfl,⟨xs,.of ha⟩,qm (K:=K) (a:=a) (xs:=xs) (sz (by lia)) (fun i ys H2=>j4 H H2/\i<=ds.length/\ys=(ds.take i).map fun r=>V.bl (R1 0 5 r&&decide ((bA r:Int)=k))) ⟨j4.refl H,j5 _,rfl⟩ (fun i ys H2 h=>?_) (fun i ys H2 _ h=>.of (h.1 _ _ ha)) rfl (fun i ys H2 x hx h=>?_) (fun ys H2 h=>?_)⟩
   ·obtain ⟨_,hil,rfl⟩:=h
    rw[b7,m8];lia
   ·obtain ⟨hS,hil,rfl⟩:=h
    obtain ⟨d,hd',dt⟩:=hds.get hx
    have dt2:=dt.kp (hS.kp st)
    refine ⟨_,rfl,x,st,d,0,5,rfl,dt2,hl2 ds rfl d (t7 hd'),fun H3 g3=>⟨_,rfl,?_⟩⟩
    have fin:∀b:Bool,b=(R1 0 5 d&&decide ((bA d:Int)=k))->j4 H H3/\i+1<=ds.length/\((ds.take i).map fun r=>V.bl (R1 0 5 r&&decide ((bA r:Int)=k)))++[V.bl b]=(ds.take (i+1)).map fun r=>V.bl (R1 0 5 r&&decide ((bA r:Int)=k)):=fun b e=>by
     subst e
     refine ⟨hS.trans g3,(List.getElem?_eq_some_iff.mp hd').1,?_⟩
     rw[t6,hd',j7];rfl
    cases hw:R1 0 5 d with
    | false=>exact ak (fin false (by rw[hw];rfl))
    | true =>
     obtain ⟨ns,e,_⟩:=dG hw
     subst e
     obtain ⟨b,e,_,hb⟩:=dt2.di
     subst e
     refine bB ⟨_,rfl,b,_,rfl,.inr (.of (g3 _ _ hb)),_,rfl,rfl,?_⟩
     refine fin _ ?_
     rw[hw,ar,aD,b7]
     rw[decide_eq_decide]
     constructor
     ·intro e;injection e
     ·intro e;rw[e]
   ·obtain ⟨hS,hil,rfl⟩:=h
    intro p hp
    refine ⟨p,_,rfl,.inl (.of i6),?_,?_⟩
    ·rw[N9];exact List.all_eq_true.mpr fun _ _=>rfl
    ·have e:(((ds.take xs.length).map fun r=>V.bl (R1 0 5 r&&decide ((bA r:Int)=k))).all kK)=ds.all (fun r=>R1 0 5 r&&decide ((bA r:Int)=k)):=by
      rw[<- hlen,u5,N9];rfl
     rw[e]
     exact q1 _ (hS.trans (j4.new hp))
  ·have e1:¬ V.int (xs.length:Int)=V.int k:=fun e=>hk' (by rw[hlen];injection e)
   rw[decide_eq_false e1]
   refine bB ?_
   have:=q0 H (j4.refl H)
   simp only[decide_eq_false hk',Q7] at this
   exact this
 | _=>exact bB (bB (q H (j4.refl H)))
end
variable {ns:List Int}{k:Nat}
theorem qo (h:k<ns.length):An (ns.map V.int) (k:Int)=some (.int (ns.getD k 0)):=by
 refine C6 ?_
 rw[m7,d0 h,t8,d0 h];rfl
noncomputable def qu (x:Int) (b:Bool):Prop:=b=false->0<=x/\x<2147483647
section
variable {P:f6}{w:j6}{K:m6}{mg:Str->Option b8}{base:Heap}{f:Addr}{fd:A7}
noncomputable def fZ (K:m6):Sp:=fun vs H Q _=>∃(a:Addr) (ns:List Int) (k:Nat),vs=[.ref a,.int k]/\eA K H a (ns.map V.int)/\∀x,Q (.int x) H
noncomputable abbrev iZ:Stmt:=ef 43
theorem tZ:A2 ["_law_script","_law_k"] ["_law_script","_law_k"] (u0 iZ):=⟨rfl,rfl,rfl,by decide +kernel,rfl,by decide +kernel,by decide +kernel⟩
theorem ux (F:bC K "_law_cell_at" "_law_cell_at" iZ f fd) (B:Bt mg):L3 P w K mg base dA 1 f fd ["_law_script","_law_k"] (fZ K):=by
 refine F.ok tZ (fun vs H Q E h=>?_) (fun cdv A outer s H vs Q E hr h=>?_)
 ·refine match h with|⟨a,ns,k,e_s1,_⟩=>?_
  subst e_s1
  rfl
 refine match h with|⟨a,ns,k,e_s1,ha,q⟩=>?_
 subst e_s1
 refine ⟨_,m9 (T5 (P7 Gf (pv 1) (A0 J6 rfl B.len J9 (b6 (pv 0) d8)) (N4 _)) (q5 (B8 (G9 Z5 (pv 0) (pv 1) (fun _ _=>rfl)))) J1)
  (q5 (B8 j9)),?_⟩
 refine ⟨_,rfl,_,rfl,a,_,rfl,.inl ha,_,_,rfl,rfl,_,rfl,?_⟩
 refine uO (fun c=>?_) (fun c=>q 0)
 have c':(k:Int)<(((ns.map V.int).length:Nat):Int):=of_decide_eq_true c
 rw[b7] at c'
 exact ⟨_,rfl,_,rfl,a,_,_,_,rfl,rfl,ha,qo (by lia),q _⟩
noncomputable def kN (K:m6):Sp:=fun vs H Q _=>∃(a:Addr) (ns:List Int) (k:Nat),vs=[.ref a,.int k]/\eA K H a (ns.map V.int)/\∀l x b,H l=none->qu x b->Q (.ref l) (v8 H l (.lst [.int x,.bl b]))
noncomputable abbrev oH:Stmt:=ef 44
theorem rg:A2 ["_law_script","_law_k","_law_cell"] ["_law_script","_law_k"] (u0 oH):=⟨rfl,rfl,rfl,by decide +kernel,rfl,by decide +kernel,by decide +kernel⟩
theorem zh (F:bC K "_law_state" "_law_state" oH f fd) (c1:U4 P w K mg base 1 "_law_cell_at" ["_law_script","_law_k"] (fZ K)):L3 P w K mg base dA 2 f fd ["_law_script","_law_k"] (kN K):=by
 refine F.ok rg (fun vs H Q E h=>?_) (fun cdv A outer s H vs Q E hr h=>?_)
 ·refine match h with|⟨a,ns,k,e_s1,_⟩=>?_
  subst e_s1
  rfl
 refine match h with|⟨a,ns,k,e_s1,ha,q⟩=>?_
 subst e_s1
 refine ⟨_,m9 (G4 (i:=2) rg.nd rfl (t5 rfl) (w5 c1 hr rfl (b6 (pv 0) (b6 (pv 1) d8))))
  (m9 (T5 (P7 Gg (pv 2) (D9 yZ j9 j9) (N4 _)) (q5 (B8 (lu (b6 (D9 ur (pv 2) (D9 yZ j9 j9)) (b6 eS d8))))) J1)
  (q5 (B8 (lu (b6 (D9 cR (pv 2) j9) (b6 eS d8)))))),?_⟩
 have hp:GW 10 18:=⟨by decide,by decide,by decide⟩
 refine ⟨_,rfl,_,rfl,a,ns,k,rfl,ha,fun x=>?_⟩
 refine ⟨_,rfl,_,_,rfl,rfl,hp,_,_,rfl,rfl,_,rfl,?_⟩
 refine uO (fun c=>?_) (fun c=>?_)
 ·exact ⟨_,rfl,_,_,rfl,rfl,hp,_,_,rfl,rfl,(by show 2<=i8;decide),fun l hl=>q l _ _ hl (fun z=>by cases z)⟩
 ·exact ⟨_,rfl,_,_,rfl,rfl,(by show (0:Int)<2147483647;decide),(by show 2<=i8;decide),fun l hl=>q l _ _ hl (fun _=>⟨aI _ (by decide),W3 _ (by decide)⟩)⟩
noncomputable def gW:Sp:=fun vs H Q _=>∃(l:Addr) (m x:Int) (b:Bool),vs=[.ref l,.int m]/\H l=some (.lst [.int x,.bl b])/\qu x b/\1<=m/\m<=1000 /\
 ∀(y:Nat) (x':Int),(y:Int)<m->qu x' b->Q (.int y) (v8 H l (.lst [.int x',.bl b]))
noncomputable abbrev uc:Stmt:=ef 45
theorem ke:A2 ["_law_state_here","_law_many","_law_found","_law_mixed"] ["_law_state_here","_law_many"] (u0 uc):=⟨rfl,rfl,rfl,by decide +kernel,rfl,by decide +kernel,by decide +kernel⟩
theorem Br (F:bC K "_law_take" "_law_take" uc f fd):L3 P w K mg base dA 1 f fd ["_law_state_here","_law_many"] gW:=by
 refine F.ok ke (fun vs H Q E h=>?_) (fun cdv A outer s H vs Q E hr h=>?_)
 ·refine match h with|⟨l,m,x,b,e_s1,_⟩=>?_
  subst e_s1
  rfl
 refine match h with|⟨l,m,x,b,e_s1,hl,hst,m1,m2,q⟩=>?_
 subst e_s1
 refine ⟨_,m9 (T5 (bG (G9 Z5 (pv 0) j9 (fun _ _=>rfl)))
   (m9 (G4 (i:=2) ke.nd rfl (t5 rfl) (D9 cR (G9 Z5 (pv 0) j9 (fun _ _=>rfl)) (pv 1)))
   (m9 (oQ (D9 kf (G9 Z5 (pv 0) j9 (fun _ _=>rfl)) (pv 1)) (oX (pv 0) j9 gX))
   (q5 (B8 (pv 2))))) J1)
  (m9 (oQ (D9 cR (D9 aR (D9 dS (G9 Z5 (pv 0) j9 (fun _ _=>rfl)) j9) j9) j9) (oX (pv 0) j9 gX))
  (m9 (G4 (i:=3) ke.nd rfl (t5 rfl) (D9 cR (D9 aR (D9 aR (D9 dS (G9 Z5 (pv 0) j9 (fun _ _=>rfl)) (G9 Z5 (pv 0) j9 (fun _ _=>rfl))) (D9 dS j9 (G9 Z5 (pv 0) j9 (fun _ _=>rfl)))) j9) j9))
  (m9 (G4 (i:=3) ke.nd rfl (t5 rfl) (D9 cR (D9 aR (D9 dS (pv 3) (pv 3)) (D9 dS j9 (pv 3))) j9))
  (q5 (B8 (D9 cR (D9 kf (pv 3) j9) (pv 1))))))),?_⟩
 have fin:∀(z x':Int),qu x' b->Q (.int (z % m)) (v8 H l (.lst [.int x',.bl b])):=fun z x' h=>by
  have h1:=aI z (show m≠0 by lia)
  have h2:=W3 z (show 0<m by lia)
  have e:z % m=(((z % m).toNat:Nat):Int):=by lia
  rw[e]
  exact q _ x' (by lia) h
 refine ⟨_,rfl,l,_,_,_,rfl,rfl,.of hl,C6 (j:=1) rfl,_,rfl,?_⟩
 cases b with
 | true =>
  refine bB ⟨_,rfl,l,_,_,_,rfl,rfl,.of hl,C6 (j:=0) rfl,_,rfl,_,_,rfl,rfl,(by lia),?_⟩
  refine ⟨_,rfl,l,_,_,_,rfl,rfl,.of hl,C6 (j:=0) rfl,_,rfl,_,_,rfl,rfl,⟨by lia,by lia⟩,_,rfl,l,_,_,0,rfl,rfl,hl,rfl,?_⟩
  exact ⟨_,rfl,fin _ _ (fun z=>by cases z)⟩
 | false =>
  obtain ⟨x0,x1⟩:=hst rfl
  refine ak ⟨_,rfl,l,_,_,_,rfl,rfl,.of hl,C6 (j:=0) rfl,_,_,rfl,rfl,.inl ⟨by lia,by lia⟩,_,_,rfl,rfl,_,_,rfl,rfl,(by show (0:Int)<2147483647;decide),_,rfl,l,_,_,0,rfl,rfl,hl,rfl,?_⟩
  have y0:=aI (x*48271+29) (show (2147483647:Int)≠0 by decide)
  have y1:=W3 (x*48271+29) (show (0:Int)<2147483647 by decide)
  show oj _ _ _ _ (v8 H l (.lst [.int ((x*48271+29) % 2147483647),.bl false]))
  generalize (x*48271+29) % 2147483647=y at y0 y1
  have hl2:v8 H l (.lst [.int y,.bl false]) l=some (.lst [.int y,.bl false]):=i6
  refine ⟨_,rfl,l,_,_,_,rfl,rfl,.of hl2,C6 (j:=0) rfl,_,rfl,l,_,_,_,rfl,rfl,.of hl2,C6 (j:=0) rfl,_,_,rfl,rfl,.inl ⟨by lia,by lia⟩,_,rfl,l,_,_,_,rfl,rfl,.of hl2,C6 (j:=0) rfl,_,_,rfl,rfl,.inr ⟨by lia,by lia⟩,_,_,rfl,rfl,_,_,rfl,rfl,_,_,rfl,rfl,(by show (0:Int)<2147483629;decide),?_⟩
  have z0:=aI (y*y+39373*y+7) (show (2147483629:Int)≠0 by decide)
  have z1:=W3 (y*y+39373*y+7) (show (0:Int)<2147483629 by decide)
  generalize (y*y+39373*y+7) % 2147483629=z at z0 z1
  refine ⟨_,rfl,_,rfl,_,_,rfl,rfl,.inl ⟨by lia,by lia⟩,_,rfl,_,_,rfl,rfl,.inr ⟨by lia,by lia⟩,_,_,rfl,rfl,_,_,rfl,rfl,(by show (0:Int)<2147483587;decide),?_⟩
  exact ⟨_,rfl,_,_,rfl,rfl,⟨by decide,by decide⟩,_,rfl,_,_,rfl,rfl,(by lia),fin _ _ (fun _=>⟨y0,y1⟩)⟩
end
structure Bt2 (mg:Str->Option b8):Prop where
 any:mg "any"=none
theorem sI:T7 "any"=some (.builtin "any"):=by decide +kernel
theorem qp:∀{ns:List Int},(∀x∈ns,0<=x)->(ns.map V.int).any kK=decide (0<ns.sum)
 | [],_=>rfl
 | a::ns,h=>by
  have h1:=h a f7
  have h2:=Mt.cm (l:=ns) fun x hx=>h x (i3 _ hx)
  rw[j8,iM,qp fun x hx=>h x (i3 _ hx),P8]
  show ((a != 0) || _)=_
  by_cases ha:a=0
  ·subst ha
   rw[Il];rfl
  ·rw[bne_iff_ne.mpr ha,vj,decide_eq_true (by lia)]
section
variable {P:f6}{w:j6}{K:m6}{mg:Str->Option b8}{base:Heap}{f:Addr}{fd:A7}
end
variable {n:Nat}
theorem pU (h:k<n):BB n (k:Int)=some k:=by
 unfold BB
 rw[if_pos (by lia),if_pos (by lia)];simp
theorem kU:∀{l:List Int}{y:Nat}{v:Int},(∀x∈l,0<=x)->0<v->y<l.length->0<(l.set y v).sum
 | [],y,_,_,_,h=>by simp at h
 | a::l,0,v,h,hv,_=>by
  rw[List.set_cons_zero,P8]
  have:=Mt.cm (l:=l) fun x hx=>h x (i3 _ hx)
  lia
 | a::l,y+1,v,h,hv,hy=>by
  rw[List.set_cons_succ,P8]
  have h1:=kU (l:=l) (y:=y) (fun x hx=>h x (i3 _ hx)) hv (by simpa using hy)
  have h2:=h a f7
  lia
noncomputable abbrev DR (rs:List (List Int)):w6:=.tuple (rs.map DI)
theorem dh (h:ns.length<=1000):cn (DI ns):=fun ds e=>by
 injection e with e
 rw[<- e,b7];exact h
variable {rs:List (List Int)}
theorem qW (h:rs.length<=1000):cn (DR rs):=fun ds e=>by
 injection e with e
 rw[<- e,b7];exact h
theorem mT (h:jW n 5 rs) (hn:n<=1000):∀ds,DR rs=.tuple ds->∀r∈ds,cn r:=fun ds e r hr=>by
 injection e with e
 rw[<- e] at hr
 obtain ⟨row,hrow,e2⟩:=List.mem_map.mp hr
 rw[<- e2]
 exact dh (by rw[(h.row row hrow).len];exact hn)
theorem zT (h:Dt st H (DR rs) v) (hk:k<rs.length):
  ∃r xs b,v=.ref r/\H r=some (.tup xs)/\xs[k]?=some (.ref b)/\H b=some (.tup ((rs.getD k []).map V.int)):=by
 obtain ⟨r,xs,e,_,hr,hds⟩:=h.untup
 have hl:=hds.len
 rw[b7] at hl
 have hkx:k<xs.length:=by lia
 obtain ⟨d,hd,dt⟩:=hds.get (i:=k) (x:=xs[k]) (d0 hkx)
 rw[m7,d0 hk] at hd
 have e2:rs.getD k []=rs[k]:=by rw[t8,d0 hk];rfl
 have e3:d=DI rs[k]:=(E2 hd).symm
 subst e3
 obtain ⟨b,eb,_,hb⟩:=dt.di
 exact ⟨r,xs,b,e,hr,by rw[d0 hkx,eb],by rw[e2];exact hb⟩
theorem oh (h:Y9 n 20 ns) (h1:1<=n) (h4:n<=4):br 20 (DI ns)=true:=by
 unfold br
 rw[aD,oo,h.len,decide_eq_true (show (1:Int)<=(n:Int) by lia),decide_eq_true (show (n:Int)<=4 by lia),decide_eq_true h.pos]
 have:R1 0 20 (DI ns)=true:=by
  show (ns.map E8).all (X3 0 20)=true
  rw[N9]
  refine List.all_eq_true.mpr fun x hx=>?_
  have:=h.nn x hx
  show (decide ((0:Int)<=x)&&decide (x<=20))=true
  rw[decide_eq_true this.1,decide_eq_true (show x<=20 by lia)];rfl
 rw[this];rfl
theorem rn (h:jW n 5 rs):fM n (DR rs)=true:=by
 show (decide (((rs.map DI).length:Int)=n)&&(rs.map DI).all (fun r=>R1 0 5 r&&decide ((bA r:Int)=n)))=true
 rw[b7,h.len,decide_eq_true rfl,ar,N9]
 refine List.all_eq_true.mpr fun r hr=>?_
 have hw:=h.row r hr
 show (R1 0 5 (DI r)&&decide ((bA (DI r):Int)=n))=true
 rw[aD,hw.len,decide_eq_true rfl,Bool.and_true]
 show (r.map E8).all (X3 0 5)=true
 rw[N9]
 refine List.all_eq_true.mpr fun x hx=>?_
 have:=hw.nn x hx
 show (decide ((0:Int)<=x)&&decide (x<=5))=true
 rw[decide_eq_true this.1,decide_eq_true (show x<=5 by lia)];rfl
theorem wF {st:Addr}{H:Hp}{d:w6}{v:V} (h:Dt st H d v):∀n:Nat,Q6 st H (E4 n d) (E4 n v)
 | 0=>Q6.nil st H
 | n+1=>Q6.cons h (wF h n)
section
variable {X:Cx}
noncomputable def FU:R2:=fun x y H Q=>∃(a:Addr) (v:V) (k:Nat),x=.ref a/\y=.int (k:Int)/\H a=some (.tup [v])/\1<=k/\k<=4/\∀p H',j4 H H'->H' p=some (.tup (E4 k v))->Q (.ref p) H'
theorem repS:iA X (V9 .Mult) FU:=by
 intro pins s σ H x y v u Q I rx ry h
 obtain ⟨a,v',k,rfl,rfl,ha,h1,h4,q⟩:=h
 refine Bl pins s σ H _ _ v u Q I rx ry ⟨a,v',(k:Int),rfl,rfl,.of ha,by lia,by lia,fun hk=>?_,fun hk p hp=>?_⟩
 ·have hk':k=1:=by lia
  subst hk'
  exact q a H (j4.refl H) ha
 ·exact q p _ (j4.new hp) i6
noncomputable def FS:V->Option Int->Option Int->Hp->VK->Prop:=fun x lo hi H Q=>∃(a:Addr) (xs:List V),x=.ref a/\H a=some (.tup xs)/\∀p H',j4 H H'->H' p=some (.tup (jt xs lo hi))->Q (.ref p) H'
theorem slS:HM X FS:=by
 intro pins s σ H x v vl vu lo hi sl Q I rx hs pl pu h
 obtain ⟨a,xs,rfl,ha,q⟩:=h
 refine De pins s σ H _ v vl vu lo hi sl Q I rx hs pl pu ⟨a,xs,rfl,.of ha,fun hw=>?_,fun hw p hp=>?_⟩
 ·refine q a H (j4.refl H) ?_
  unfold jt
  rw[hw.1,hw.2,L7,kE,u5];exact ha
 ·exact q p _ (j4.new hp) i6
end
section
variable {P:f6}{w:j6}{K:m6}{mg:Str->Option b8}{base:Heap}{f:Addr}{fd:A7}
noncomputable def cj (l:Addr) (b:Bool) (H H':Hp):Prop:=Kp l H H'/\∃x,H' l=some (.lst [.int x,.bl b])/\qu x b
variable {l:Addr}{b:Bool}{H:Hp}
theorem cj.start {x:Int} (h:H l=some (.lst [.int x,.bl b])) (ok:qu x b):cj l b H H:=⟨Kp.refl l H,x,h,ok⟩
variable {H1:Hp}
theorem cj.same {H2:Hp} (s:cj l b H H1) (g:j4 H1 H2):cj l b H H2:=by
 obtain ⟨k,x,h,ok⟩:=s
 exact ⟨k.trans (g.kp l),x,g _ _ h,ok⟩
theorem cj.new {l:Addr}{b:Bool}{H H1:Hp}{p:Addr}{o:HO} (s:cj l b H H1) (h:H1 p=none):cj l b H (v8 H1 p o):=s.same (j4.new h)
theorem cj.trans {l:Addr}{b:Bool}{H H1 H2:Hp} (s:cj l b H H1) (t:cj l b H1 H2):cj l b H H2:=⟨s.1.trans t.1,t.2⟩
variable {p:Addr}
theorem cj.ne (s:cj l b H H1) (h:H1 p=none):l≠p:=by
 obtain ⟨_,x,e,_⟩:=s
 exact u3 e h
theorem cj.go {x:Int} (s:cj l b H H1) (ok:qu x b):cj l b H (v8 H1 l (.lst [.int x,.bl b])):=⟨s.1.trans Kp.at,x,i6,ok⟩
theorem cj.neL {xs:List V} (s:cj l b H H1) (h:H1 p=some (.tup xs)):p≠l:=fun e=>by
 obtain ⟨_,x,q,_⟩:=s
 rw[e,q] at h;cases h
theorem cj.lput {o:HO} (s:cj l b H H1) (hpl:p≠l) (hpn:H p=none):cj l b H (v8 H1 p o):=by
 obtain ⟨k,x',e,ok⟩:=s
 exact ⟨fun c o hc hco=>by rw[A3 (fun z=>by rw[z,hpn] at hco;cases hco)];exact k c o hc hco,x',by rw[A3 hpl.symm];exact e,ok⟩
noncomputable def ou:Sp:=fun vs H Q _=>∃(l:Addr) (n:Nat) (x:Int) (b:Bool),vs=[.ref l,.int n]/\H l=some (.lst [.int x,.bl b])/\qu x b/\1<=n/\n<=4 /\
 ∀(p:Addr) (H':Hp) (ns:List Int),cj l b H H'->H' p=some (.tup (ns.map V.int))->Mt.Y9 n 20 ns->Q (.ref p) H'
noncomputable abbrev ue:Stmt:=ef 46
theorem oC:A2 ["_law_state_here","_law_kinds","_law_most","_law_found"] ["_law_state_here","_law_kinds"] (u0 ue):=⟨rfl,rfl,rfl,by decide +kernel,rfl,by decide +kernel,by decide +kernel⟩
theorem Bv (F:bC K "_law_urn_of" "_law_urn_of" ue f fd) (B:Bt mg) (B2:Bt2 mg) (c1:U4 P w K mg base 1 "_law_take" ["_law_state_here","_law_many"] gW):L3 P w K mg base dA 2 f fd ["_law_state_here","_law_kinds"] ou:=by
 refine F.ok oC (fun vs H Q E h=>?_) (fun cdv A outer s H vs Q E hr h=>?_)
 ·obtain ⟨l,n,x,b,rfl,_⟩:=h
  rfl
 obtain ⟨l,n,x,b,rfl,hl,hst,n1,n4,q⟩:=h
 refine ⟨_,m9 (G4 (i:=2) oC.nd rfl (bZ rfl) (G9 Z5 (lu (b6 j9 (b6 j9 (b6 j9 (b6 j9 d8))))) (w5 c1 hr rfl (b6 (pv 0) (b6 j9 d8))) (fun _ _=>rfl)))
  (m9 (cK (N:=["_law_kind","_law_state_here","_law_most"]) (ix:=[none,some 0,some 2]) (ifs:=[]) (tc:=M0) (i:=3) rfl oC.nd rfl rfl (L0 rfl B.range (b6 (pv 1) d8))
   (fun s H ex=>Q5 (i:=0) (by decide +kernel) rfl (t5 rfl) (.inr rfl)) (fun s H ex=>D8) (fun s H ex=>w5 c1 hr rfl (b6 (pv 1) (b6 (pv 2) d8))) rfl (by decide +kernel) (by rfl) (by rfl) (fun _=>rfl) (by rfl))
  (m9 (T5 (P7 fO (w5 c1 hr rfl (b6 (pv 0) (b6 j9 d8))) j9 (N4 _)) (q5 (oQ j9 (oX (pv 3) (w5 c1 hr rfl (b6 (pv 0) (b6 (pv 1) d8))) gX))) J1)
  (m9 (T5 (cQ (bG (A0 (iy rfl) rfl B2.any sI (b6 (pv 3) d8)))) (q5 (oQ (D9 aR j9 (w5 c1 hr rfl (b6 (pv 0) (b6 j9 d8)))) (oX (pv 3) (w5 c1 hr rfl (b6 (pv 0) (b6 (pv 1) d8))) gX))) J1)
  (q5 (B8 (J4 F8 rfl B.tuple N0 (b6 (pv 3) d8))))))),?_⟩
 have s0:cj l b H H:=cj.start hl hst
 refine ⟨(by show 4<=i8;decide),fun p0 hp0=>⟨_,rfl,?_⟩⟩
 have s1:cj l b H (v8 H p0 (.lst [.int 3,.int 3,.int 6,.int 21])):=s0.new hp0
 obtain ⟨_,x1,hx1,ok1⟩:=id s1
 refine ⟨l,4,x1,b,rfl,hx1,ok1,by decide,by decide,fun y x2 hy DH=>?_⟩
 have s2:=s1.go DH
 have k2:Kp l (v8 H p0 (.lst [.int 3,.int 3,.int 6,.int 21])) (v8 (v8 H p0 (.lst [.int 3,.int 3,.int 6,.int 21])) l (.lst [.int x2,.bl b])):=Kp.at
 generalize v8 (v8 H p0 (.lst [.int 3,.int 3,.int 6,.int 21])) l (.lst [.int x2,.bl b])=H1 at s2 k2
 have hp1:H1 p0=some (.lst [.int 3,.int 3,.int 6,.int 21]):=k2 _ _ (s0.ne hp0).symm i6
 obtain ⟨m,hm,m1,m2⟩:∃m:Int,([.int 3,.int 3,.int 6,.int 21]:List V)[y]?=some (.int m)/\1<=m/\m<=21:=by
  have hy':y<4:=by lia
  match y,hy' with
  | 0,_=>exact ⟨3,rfl,by decide,by decide⟩
  | 1,_=>exact ⟨3,rfl,by decide,by decide⟩
  | 2,_=>exact ⟨6,rfl,by decide,by decide⟩
  | 3,_=>exact ⟨21,rfl,by decide,by decide⟩
 refine ⟨p0,_,_,_,rfl,rfl,.of hp1,C6 hm,?_⟩
 refine ⟨_,rfl,(n:Int),rfl,by lia,by lia,?_⟩
 refine T1 (lo:=0) (n:=n) (sz (by lia)) (fun i ys H2=>cj l b H H2/\∃ns:List Int,ys=ns.map V.int/\ns.length=i/\∀z∈ns,0<=z/\z<=20)
  ⟨s2,[],rfl,rfl,by simp⟩ (fun i ys H2 h=>?_) rfl (fun i ys H2 hi h=>?_) (fun ys H2 h=>?_)
 ·obtain ⟨_,ns,rfl,hn,_⟩:=h
  rw[b7];exact hn
 ·obtain ⟨s3,ns,rfl,hn,hb⟩:=h
  obtain ⟨_,x3,hx3,ok3⟩:=id s3
  refine ⟨_,rfl,_,rfl,l,m,x3,b,rfl,hx3,ok3,m1,by lia,fun y x4 hy ok4=>?_⟩
  refine ⟨s3.go ok4,ns++[(y:Int)],by rw[j7];rfl,by rw[n8,hn];rfl,fun z hz=>?_⟩
  rcases List.mem_append.mp hz with h|h
  ·exact hb z h
  ·rw[List.mem_singleton.mp h];lia
 ·obtain ⟨s3,ns,rfl,hn,hb⟩:=h
  intro p hp
  have s4:cj l b H (v8 H2 p (.lst (ns.map V.int))):=s3.new hp
  have hpl:p≠l:=(s3.ne hp).symm
  have hpn:H p=none:=by
   cases e:H p with
   | none=>rfl
   | some o=>rw[s3.1 p o hpl e] at hp;cases hp
  have hp4:v8 H2 p (.lst (ns.map V.int)) p=some (.lst (ns.map V.int)):=i6
  show oj _ _ _ _ (v8 H2 p (.lst (ns.map V.int)))
  generalize v8 H2 p (.lst (ns.map V.int))=H3 at s4 hp4
  obtain ⟨_,x4,hx4,ok4⟩:=id s4
  refine ⟨_,rfl,l,8,x4,b,rfl,hx4,ok4,by decide,by decide,fun y8 x8 hy8 ok8=>⟨rfl,_,rfl,?_⟩⟩
  have s8:=s4.go ok8
  have k8:Kp l H3 (v8 H3 l (.lst [.int x8,.bl b])):=Kp.at
  generalize v8 H3 l (.lst [.int x8,.bl b])=H8 at s8 k8
  have hp8:=k8 _ _ hpl hp4
  refine uO (fun _=>?_) (fun _=>?_)
  ·obtain ⟨_,x9,hx9,ok9⟩:=id s8
   refine ⟨_,rfl,_,rfl,_,rfl,l,n,x9,b,rfl,hx9,ok9,by lia,by lia,fun y9 xa hy9 oka=>?_⟩
   have s9:=s8.go oka
   have k9:Kp l H8 (v8 H8 l (.lst [.int xa,.bl b])):=Kp.at
   generalize v8 H8 l (.lst [.int xa,.bl b])=H9 at s9 k9
   have hp9:=k9 _ _ hpl hp8
   have hy9':y9<ns.length:=by lia
   refine ⟨p,_,_,y9,rfl,rfl,hp9,pU (by rw[b7];exact hy9'),?_⟩
   have sA:=s9.lput (o:=.lst ((ns.map V.int).set y9 (.int 20))) hpl hpn
   have hpA:v8 H9 p (.lst ((ns.map V.int).set y9 (.int 20))) p=some (.lst ((ns.set y9 20).map V.int)):=by rw[i6,vf]
   have hnA:(ns.set y9 20).length=n:=by rw[cC];exact hn
   have hbA:∀z∈ns.set y9 20,0<=z/\z<=20:=fun z hz=>by
    rcases dw hz with h|h
    ·exact hb z h
    ·rw[h];decide
   show oj _ _ _ _ (v8 H9 p (.lst ((ns.map V.int).set y9 (.int 20))))
   generalize v8 H9 p (.lst ((ns.map V.int).set y9 (.int 20)))=HA at sA hpA
   generalize ns.set y9 20=nsA at hpA hnA hbA
   refine ⟨_,rfl,p,_,rfl,.inl (.of hpA),(by rw[N9];exact List.all_eq_true.mpr fun _ _=>rfl),_,rfl,?_⟩
   rw[qp fun x hx=>(hbA x hx).1]
   by_cases hz:0<nsA.sum
   ·rw[decide_eq_true hz]
    refine ak ⟨_,rfl,p,_,rfl,.inl ⟨.of hpA,fun t ht=>?_⟩⟩
    exact q t _ nsA (sA.new ht) i6 ⟨hnA,hbA,hz⟩
   ·rw[decide_eq_false hz]
    obtain ⟨_,xz,hxz,okz⟩:=id sA
    refine bB ⟨_,rfl,l,3,xz,b,rfl,hxz,okz,by decide,by decide,fun v x5 hv ok5=>?_⟩
    have s5:=sA.go ok5
    have k5:Kp l HA (v8 HA l (.lst [.int x5,.bl b])):=Kp.at
    generalize v8 HA l (.lst [.int x5,.bl b])=H4 at s5 k5
    obtain ⟨_,x6,hx6,ok6⟩:=id s5
    refine ⟨_,_,rfl,rfl,_,rfl,_,rfl,_,rfl,l,n,x6,b,rfl,hx6,ok6,by lia,by lia,fun y x7 hy ok7=>?_⟩
    have s6:=s5.go ok7
    have k6:Kp l H4 (v8 H4 l (.lst [.int x7,.bl b])):=Kp.at
    generalize v8 H4 l (.lst [.int x7,.bl b])=H5 at s6 k6
    have hp5:H5 p=some (.lst (nsA.map V.int)):=k6 _ _ hpl (k5 _ _ hpl hpA)
    have hy':y<nsA.length:=by lia
    refine ⟨p,_,_,y,rfl,rfl,hp5,pU (by rw[b7];exact hy'),?_⟩
    refine ⟨_,rfl,p,_,rfl,.inl ⟨.of i6,fun t ht=>?_⟩⟩
    have s7:=s6.lput (o:=.lst ((nsA.map V.int).set y (.int (1+v)))) hpl hpn
    refine q t _ (nsA.set y (1+v)) (s7.new ht) (by rw[i6,vf]) ⟨by rw[cC];exact hnA,fun z hz=>?_,kU (fun z hz=>(hbA z hz).1) (by lia) hy'⟩
    rcases dw hz with h|h
    ·exact hbA z h
    ·rw[h];lia
  ·show oj _ _ _ _ H8
   refine ⟨_,rfl,p,_,rfl,.inl (.of hp8),(by rw[N9];exact List.all_eq_true.mpr fun _ _=>rfl),_,rfl,?_⟩
   rw[qp fun x hx=>(hb x hx).1]
   by_cases hz:0<ns.sum
   ·rw[decide_eq_true hz]
    refine ak ⟨_,rfl,p,_,rfl,.inl ⟨.of hp8,fun t ht=>?_⟩⟩
    exact q t _ ns (s8.new ht) i6 ⟨hn,hb,hz⟩
   ·rw[decide_eq_false hz]
    obtain ⟨_,xz,hxz,okz⟩:=id s8
    refine bB ⟨_,rfl,l,3,xz,b,rfl,hxz,okz,by decide,by decide,fun v x5 hv ok5=>?_⟩
    have s5:=s8.go ok5
    have k5:Kp l H8 (v8 H8 l (.lst [.int x5,.bl b])):=Kp.at
    generalize v8 H8 l (.lst [.int x5,.bl b])=H4 at s5 k5
    obtain ⟨_,x6,hx6,ok6⟩:=id s5
    refine ⟨_,_,rfl,rfl,_,rfl,_,rfl,_,rfl,l,n,x6,b,rfl,hx6,ok6,by lia,by lia,fun y x7 hy ok7=>?_⟩
    have s6:=s5.go ok7
    have k6:Kp l H4 (v8 H4 l (.lst [.int x7,.bl b])):=Kp.at
    generalize v8 H4 l (.lst [.int x7,.bl b])=H5 at s6 k6
    have hp5:H5 p=some (.lst (ns.map V.int)):=k6 _ _ hpl (k5 _ _ hpl hp8)
    have hy':y<ns.length:=by lia
    refine ⟨p,_,_,y,rfl,rfl,hp5,pU (by rw[b7];exact hy'),?_⟩
    refine ⟨_,rfl,p,_,rfl,.inl ⟨.of i6,fun t ht=>?_⟩⟩
    have s7:=s6.lput (o:=.lst ((ns.map V.int).set y (.int (1+v)))) hpl hpn
    refine q t _ (ns.set y (1+v)) (s7.new ht) (by rw[i6,vf]) ⟨by rw[cC];exact hn,fun z hz=>?_,kU (fun z hz=>(hb z hz).1) (by lia) hy'⟩
    rcases dw hz with h|h
    ·exact hb z h
    ·rw[h];lia
end
theorem zX {xs:List V}{y:Nat} (h:y<=xs.length):jt xs (some (y:Int)) none=xs.drop y:=by
 unfold jt
 have e1:HT.aY xs.length 0 (some (y:Int))=y:=by rw[HT.vB];lia
 rw[e1,HT.rm]
 exact C1 (by rw[A6];lia)
theorem zV {xs:List V}{y:Nat} (h:y<=xs.length):jt xs none (some (y:Int))=xs.take y:=by
 unfold jt
 have e1:HT.aY xs.length xs.length (some (y:Int))=y:=by rw[HT.vB];lia
 rw[e1,HT.rm,L7,kE]
section
variable {P:f6}{w:j6}{K:m6}{mg:Str->Option b8}{base:Heap}{f:Addr}{fd:A7}
noncomputable def kQ:Sp:=fun vs H Q _=>∃(l:Addr) (n:Nat) (x:Int) (b:Bool),vs=[.ref l,.int n]/\H l=some (.lst [.int x,.bl b])/\qu x b/\1<=n/\n<=4 /\
 ∀(v:V) (H':Hp) (rs:List (List Int)),cj l b H H'->Dt l H' (DR rs) v->Mt.jW n 5 rs->Q v H'
noncomputable abbrev oJ:Stmt:=ef 47
theorem eK:A2 ["_law_state_here","_law_kinds","_law_way","_law_more","_law_row","_law_far"] ["_law_state_here","_law_kinds"] (u0 oJ):=⟨rfl,rfl,rfl,by decide +kernel,rfl,by decide +kernel,by decide +kernel⟩
theorem zk (F:bC K "_law_rule" "_law_rule" oJ f fd) (B:Bt mg) (c1:U4 P w K mg base 1 "_law_take" ["_law_state_here","_law_many"] gW):L3 P w K mg base dA 2 f fd ["_law_state_here","_law_kinds"] kQ:=by
 refine F.ok eK (fun vs H Q E h=>?_) (fun cdv A outer s H vs Q E hr h=>?_)
 ·obtain ⟨l,n,x,b,rfl,_⟩:=h
  rfl
 obtain ⟨l,n,x,b,rfl,hl,hst,n1,n4,q⟩:=h
 refine ⟨_,m9 (G4 (i:=2) eK.nd rfl (t5 rfl) (w5 c1 hr rfl (b6 (pv 0) (b6 j9 d8))))
  (m9 (G4 (i:=3) eK.nd rfl (bZ rfl) (w5 c1 hr rfl (b6 (pv 0) (b6 j9 d8))))
  (m9 (T5 (P7 fO (pv 2) j9 (N4 _)) (q5 (B8 (J4 F8 rfl B.tuple N0 (b6 (F5 (N:=["_law_kind","_law_kinds","_law_more"]) (ix:=[none,some 1,some 3]) (ifs:=[]) (tc:=M0) rfl (L0 rfl B.range (b6 (pv 1) d8)) (fun s H ex=>Q5 (i:=0) (by decide +kernel) rfl (bZ rfl) (.inl rfl)) (fun s H ex=>D8) (fun s H ex=>(J4 (CP (K:=K) rfl) rfl B.tuple N0 (b6 (F5 (N:=["_law_one","_law_more","_law_kind"]) (ix:=[none,some 2,some 0]) (ifs:=[]) (tc:=M0) rfl (L0 rfl B.range (b6 (pv 1) d8)) (fun s H ex=>Q5 (i:=0) (by decide +kernel) rfl (t5 rfl) (.inr rfl)) (fun s H ex=>D8) (fun s H ex=>D9 dS (pv 1) (J4 jv rfl B.int CD (b6 (cL fO (pv 0) (pv 2) (N4 _)) d8))) rfl (by decide +kernel) (by rfl) (by rfl) (fun _=>rfl)) d8))) rfl (by decide +kernel) (by rfl) (by rfl) (fun _=>rfl)) d8)))) J1)
  (m9 (G4 (i:=4) eK.nd rfl (bZ rfl) (J4 F8 rfl B.tuple N0 (b6 (F5 (N:=["_law_kind","_law_state_here"]) (ix:=[none,some 0]) (ifs:=[]) (tc:=M0) rfl (L0 rfl B.range (b6 (pv 1) d8)) (fun s H ex=>Q5 (i:=0) (by decide +kernel) rfl (t5 rfl) (.inr rfl)) (fun s H ex=>D8) (fun s H ex=>w5 c1 hr rfl (b6 (pv 1) (b6 (G9 (ixLK (K:=K) rfl) (lu (b6 j9 (b6 j9 (b6 j9 d8)))) (w5 c1 hr rfl (b6 (pv 1) (b6 j9 d8))) (fun _ _=>rfl)) d8))) rfl (by decide +kernel) (by rfl) (by rfl) (fun _=>rfl)) d8)))
  (m9 (T5 (P7 fO (pv 2) j9 (N4 _)) (q5 (B8 (D9 repS (O5 (b6 (pv 4) d8)) (pv 1)))) J1)
  (m9 (T5 (P7 fO (pv 2) j9 (N4 _)) (m9 (cK (N:=["_law_kind","_law_state_here","_law_kinds"]) (ix:=[none,some 0,some 1]) (ifs:=[]) (tc:=M0) (i:=5) rfl eK.nd rfl rfl (L0 rfl B.range (b6 (pv 1) d8)) (fun s H ex=>Q5 (i:=0) (by decide +kernel) rfl (t5 rfl) (.inr rfl)) (fun s H ex=>D8) (fun s H ex=>w5 c1 hr rfl (b6 (pv 1) (b6 (pv 2) d8))) rfl (by decide +kernel) (by rfl) (by rfl) (fun _=>rfl) (by rfl)) (q5 (B8 (J4 F8 rfl B.tuple N0 (b6 (F5 (N:=["_law_place","_law_row"]) (ix:=[none,some 4]) (ifs:=[]) (tc:=M0) rfl (V2 (pv 5)) (fun s H ex=>Q5 (i:=0) (by decide +kernel) rfl (t5 rfl) (.inr rfl)) (fun s H ex=>D8) (fun s H ex=>D9 catS (rE slS (pv 1) (vI (pv 0)) vJ) (rE slS (pv 1) vJ (vI (pv 0)))) rfl (by decide +kernel) (by rfl) (by rfl) (fun _=>rfl)) d8))))) J1)
  (m9 (T5 (P7 fO (pv 2) j9 (N4 _)) (q5 (B8 (J4 F8 rfl B.tuple N0 (b6 (F5 (N:=["_law_kind","_law_kinds","_law_more"]) (ix:=[none,some 1,some 3]) (ifs:=[]) (tc:=M0) rfl (L0 rfl B.range (b6 (pv 1) d8)) (fun s H ex=>Q5 (i:=0) (by decide +kernel) rfl (bZ rfl) (.inl rfl)) (fun s H ex=>D8) (fun s H ex=>(J4 (CP (K:=K) rfl) rfl B.tuple N0 (b6 (F5 (N:=["_law_one","_law_kind","_law_kinds","_law_more"]) (ix:=[none,some 0,some 1,some 2]) (ifs:=[]) (tc:=M0) rfl (L0 rfl B.range (b6 (pv 1) d8)) (fun s H ex=>Q5 (i:=0) (by decide +kernel) rfl (t5 rfl) (.inr rfl)) (fun s H ex=>D8) (fun s H ex=>D9 dS (pv 3) (J4 jv rfl B.int CD (b6 (cL fO (pv 0) (D9 cR (D9 aR (pv 1) j9) (pv 2)) (N4 _)) d8))) rfl (by decide +kernel) (by rfl) (by rfl) (fun _=>rfl)) d8))) rfl (by decide +kernel) (by rfl) (by rfl) (fun _=>rfl)) d8)))) J1)
  (q5 (B8 (J4 F8 rfl B.tuple N0 (b6 (F5 (N:=["_law_kind","_law_kinds","_law_state_here"]) (ix:=[none,some 1,some 0]) (ifs:=[]) (tc:=M0) rfl (L0 rfl B.range (b6 (pv 1) d8)) (fun s H ex=>Q5 (i:=0) (by decide +kernel) rfl (t5 rfl) (.inr rfl)) (fun s H ex=>D8) (fun s H ex=>(J4 (CP (K:=K) rfl) rfl B.tuple N0 (b6 (F5 (N:=["_law_one","_law_state_here"]) (ix:=[none,some 2]) (ifs:=[]) (tc:=M0) rfl (L0 rfl B.range (b6 (pv 1) d8)) (fun s H ex=>Q5 (i:=0) (by decide +kernel) rfl (t5 rfl) (.inr rfl)) (fun s H ex=>D8) (fun s H ex=>w5 c1 hr rfl (b6 (pv 1) (b6 j9 d8))) rfl (by decide +kernel) (by rfl) (by rfl) (fun _=>rfl)) d8))) rfl (by decide +kernel) (by rfl) (by rfl) (fun _=>rfl)) d8)))))))))),?_⟩
 have lo62:-(2 ^ 62)<=((n:Nat):Int):=by lia
 have hi62:((n:Nat):Int)<2 ^ 62:=by lia
 have s0:cj l b H H:=cj.start hl hst
 have fin:∀(rs:List (List Int)) (ys:List V) (H3:Hp) (p ra:Addr),cj l b H H3->rs.length=n->(∀r∈rs,Mt.zZ n 5 r)->Q6 l H3 (rs.map DI) ys->H3 p=none->v8 H3 p (.lst ys) ra=none->Q (.ref ra) (v8 (v8 H3 p (.lst ys)) ra (.tup ys)):=fun rs ys H3 p ra s3 h1 h2 h3 hp hra=>by
  have s4:cj l b H (v8 H3 p (.lst ys)):=s3.new hp
  exact q _ _ rs (s4.new hra) (Dt.tup (s4.ne hra).symm i6 (h3.kp ((Kp.new hp).trans (Kp.new hra)))) ⟨h1,h2⟩
 refine ⟨_,rfl,l,5,x,b,rfl,hl,hst,by decide,by decide,fun wy x1 hwy ok1=>?_⟩
 have s1:=s0.go ok1
 show oj _ _ _ _ (v8 H l (.lst [.int x1,.bl b]))
 generalize v8 H l (.lst [.int x1,.bl b])=H1 at s1
 obtain ⟨_,x2,hx2,DH⟩:=id s1
 refine ⟨_,rfl,l,6,x2,b,rfl,hx2,DH,by decide,by decide,fun mo x3 hmo ok3=>?_⟩
 have s2:=s1.go ok3
 show oj _ _ _ _ (v8 H1 l (.lst [.int x3,.bl b]))
 generalize v8 H1 l (.lst [.int x3,.bl b])=H2 at s2
 refine ⟨_,rfl,rfl,_,rfl,uO (fun _=>?_) (fun _=>?_)⟩
 ·refine ⟨_,rfl,(n:Int),rfl,lo62,hi62,?_⟩
  refine T1 (lo:=0) (n:=n) (sz (by lia)) (fun i ys H3=>cj l b H H3/\∃rs:List (List Int),rs.length=i/\(∀r∈rs,Mt.zZ n 5 r)/\Q6 l H3 (rs.map DI) ys)
   ⟨s2,[],rfl,by simp,Q6.nil _ _⟩ (fun i ys H3 h=>?_) rfl (fun i ys H3 hi h=>?_) (fun ys H3 h=>?_)
  ·obtain ⟨_,rs,hr1,_,hd⟩:=h
   rw[<- hd.len,b7];exact hr1
  ·obtain ⟨s3,rs,hr1,hr2,hd⟩:=h
   refine ⟨_,rfl,(n:Int),rfl,lo62,hi62,?_⟩
   refine T1 (lo:=0) (n:=n) (sz (by lia)) (fun j zs H4=>cj l b H H4/\Kp l H3 H4/\∃r:List Int,zs=r.map V.int/\r.length=j/\∀z∈r,0<=z/\z<=5)
    ⟨s3,Kp.refl _ _,[],rfl,rfl,by simp⟩ (fun j zs H4 h=>?_) rfl (fun j zs H4 hj h=>?_) (fun zs H4 h=>?_)
   ·obtain ⟨_,_,r,rfl,hr,_⟩:=h
    rw[b7];exact hr
   ·obtain ⟨s4,k4,r,rfl,hr,hz⟩:=h
    refine ⟨_,rfl,_,rfl,_,rfl,rfl,.inr ⟨_,rfl,_,_,rfl,rfl,.inl ⟨by lia,by lia⟩,?_⟩⟩
    refine ⟨s4,k4,r++[_],by rw[j7];rfl,by rw[n8,hr];rfl,fun z hz'=>?_⟩
    rcases List.mem_append.mp hz' with h|h
    ·exact hz z h
    ·rw[List.mem_singleton.mp h]
     split <;> lia
   ·obtain ⟨s4,k4,r,rfl,hr,hz⟩:=h
    intro p hp
    have s5:cj l b H (v8 H4 p (.lst (r.map V.int))):=s4.new hp
    refine ⟨p,_,rfl,.inl ⟨.of i6,fun t ht=>?_⟩⟩
    have kk:Kp l H3 (v8 (v8 H4 p (.lst (r.map V.int))) t (.tup (r.map V.int))):=(k4.trans (Kp.new hp)).trans (Kp.new ht)
    refine ⟨s5.new ht,rs++[r],by rw[n8,hr1];rfl,fun r' hr'=>?_,?_⟩
    ·rcases List.mem_append.mp hr' with h|h
     ·exact hr2 r' h
     ·rw[List.mem_singleton.mp h];exact ⟨hr,hz⟩
    ·rw[j7]
     exact (hd.kp kk).append (Q6.cons (Dt.mkI (s5.ne ht).symm i6) (Q6.nil _ _))
  ·obtain ⟨s3,rs,hr1,hr2,hd⟩:=h
   exact fun p hp=>⟨p,_,rfl,.inl ⟨.of i6,fun ra hra=>fin rs ys H3 p ra s3 hr1 hr2 hd hp hra⟩⟩
 refine ⟨_,rfl,(n:Int),rfl,lo62,hi62,?_⟩
 refine T1 (lo:=0) (n:=n) (sz (by lia)) (fun i ys H3=>cj l b H H3/\∃ns:List Int,ys=ns.map V.int/\ns.length=i/\∀z∈ns,0<=z/\z<=5)
  ⟨s2,[],rfl,rfl,by simp⟩ (fun i ys H3 h=>?_) rfl (fun i ys H3 hi h=>?_) (fun ys H3 h=>?_)
 ·obtain ⟨_,ns,rfl,hn,_⟩:=h
  rw[b7];exact hn
 ·obtain ⟨s3,ns,rfl,hn,hb⟩:=h
  refine ⟨_,rfl,(by show 3<=i8;decide),fun p5 hp5=>?_⟩
  have s5:cj l b H (v8 H3 p5 (.lst [.int 2,.int 3,.int 6])):=s3.new hp5
  have np5:p5≠l:=(s3.ne hp5).symm
  obtain ⟨_,x5,hx5,ok5⟩:=id s5
  refine ⟨_,rfl,l,3,x5,b,rfl,hx5,ok5,by decide,by decide,fun y x6 hy ok6=>?_⟩
  have s6:=s5.go ok6
  have k6:Kp l (v8 H3 p5 (.lst [.int 2,.int 3,.int 6])) (v8 (v8 H3 p5 (.lst [.int 2,.int 3,.int 6])) l (.lst [.int x6,.bl b])):=Kp.at
  have hp6:=k6 _ _ np5 i6
  obtain ⟨m,hm,m1,m2⟩:∃m:Int,([.int 2,.int 3,.int 6]:List V)[y]?=some (.int m)/\1<=m/\m<=6:=by
   have hy':y<3:=by lia
   match y,hy' with
   | 0,_=>exact ⟨2,rfl,by decide,by decide⟩
   | 1,_=>exact ⟨3,rfl,by decide,by decide⟩
   | 2,_=>exact ⟨6,rfl,by decide,by decide⟩
  obtain ⟨_,x7,hx7,ok7⟩:=id s6
  refine ⟨p5,_,_,_,rfl,rfl,.of hp6,C6 hm,l,m,x7,b,rfl,hx7,ok7,m1,by lia,fun y2 x8 hy2 ok8=>?_⟩
  refine ⟨s6.go ok8,ns++[(y2:Int)],by rw[j7];rfl,by rw[n8,hn];rfl,fun z hz=>?_⟩
  rcases List.mem_append.mp hz with h|h
  ·exact hb z h
  ·rw[List.mem_singleton.mp h];lia
 obtain ⟨s3,ns,rfl,hn,hb⟩:=h
 intro p3 hp3
 refine ⟨p3,_,rfl,.inl ⟨.of i6,fun rw hrw=>?_⟩⟩
 have s4:cj l b H (v8 H3 p3 (.lst (ns.map V.int))):=s3.new hp3
 have s5:=s4.new (o:=.tup (ns.map V.int)) hrw
 have hr5:v8 (v8 H3 p3 (.lst (ns.map V.int))) rw (.tup (ns.map V.int)) rw=some (.tup (ns.map V.int)):=i6
 show oj _ _ _ _ (v8 (v8 H3 p3 (.lst (ns.map V.int))) rw (.tup (ns.map V.int)))
 generalize v8 (v8 H3 p3 (.lst (ns.map V.int))) rw (.tup (ns.map V.int))=H5 at s5 hr5
 have nrw:rw≠l:=s5.neL hr5
 have hrow:Mt.zZ n 5 ns:=⟨hn,hb⟩
 refine ⟨_,rfl,rfl,_,rfl,uO (fun _=>?_) (fun _=>?_)⟩
 ·refine ⟨_,rfl,(by show 1<=i8;decide),fun pa hpa=>⟨_,rfl,pa,.ref rw,n,rfl,rfl,i6,n1,n4,fun pb Hb gb hpb=>?_⟩⟩
  have g:=(j4.new (o:=.tup [.ref rw]) hpa).trans gb
  have s6:=s5.same g
  refine q _ _ (E4 n ns) s6 (Dt.tup (s6.neL hpb) hpb ?_) ⟨fI,fun r hr=>by rw[List.eq_of_mem_replicate hr];exact hrow⟩
  rw[List.map_replicate]
  exact wF (Dt.mkI nrw (g _ _ hr5)) n
 refine ⟨_,rfl,rfl,_,rfl,uO (fun _=>?_) (fun _=>?_)⟩
 ·refine ⟨_,rfl,(n:Int),rfl,lo62,hi62,?_⟩
  refine T1 (lo:=0) (n:=n) (sz (by lia)) (fun i ys H6=>cj l b H H6/\Kp l H5 H6/\∃ks:List Nat,ys=ks.map (fun (k:Nat)=>V.int k)/\ks.length=i/\∀z∈ks,z<n)
   ⟨s5,Kp.refl _ _,[],rfl,rfl,by simp⟩ (fun i ys H6 h=>?_) rfl (fun i ys H6 hi h=>?_) (fun ys H6 h=>?_)
  ·obtain ⟨_,_,ks,rfl,hk,_⟩:=h
   rw[b7];exact hk
  ·obtain ⟨s6,k6,ks,rfl,hk,hlt⟩:=h
   obtain ⟨_,x6,hx6,ok6⟩:=id s6
   refine ⟨_,rfl,_,rfl,l,n,x6,b,rfl,hx6,ok6,by lia,by lia,fun y x7 hy ok7=>?_⟩
   refine ⟨s6.go ok7,k6.trans Kp.at,ks++[y],by rw[j7];rfl,by rw[n8,hk];rfl,fun z hz=>?_⟩
   rcases List.mem_append.mp hz with h|h
   ·exact hlt z h
   ·rw[List.mem_singleton.mp h];lia
  obtain ⟨s6,k6,ks,rfl,hk,hlt⟩:=h
  intro pf hpf
  have s7:=s6.new (o:=.lst (ks.map (fun (k:Nat)=>V.int k))) hpf
  have npf:pf≠l:=(s6.ne hpf).symm
  have hf7:v8 H6 pf (.lst (ks.map (fun (k:Nat)=>V.int k))) pf=some (.lst (ks.map (fun (k:Nat)=>V.int k))):=i6
  have hr7:v8 H6 pf (.lst (ks.map (fun (k:Nat)=>V.int k))) rw=some (.tup (ns.map V.int)):=j4.new hpf _ _ (k6 _ _ nrw hr5)
  generalize v8 H6 pf (.lst (ks.map (fun (k:Nat)=>V.int k)))=H7 at s7 hf7 hr7
  refine ⟨_,rfl,pf,rfl,⟨_,.of hf7⟩,iz (K:=K) (a:=pf) (xs:=ks.map (fun (k:Nat)=>V.int k)) (by rw[b7,hk];exact sz (by lia)) (fun i ys H8=>j4 H7 H8/\i<=n/\∃rs:List (List Int),rs.length=i/\(∀r∈rs,Mt.zZ n 5 r)/\Q6 l H8 (rs.map DI) ys)
   ⟨j4.refl _,j5 _,[],rfl,by simp,Q6.nil _ _⟩ (fun i ys H8 h=>?_) (fun i ys H8 _ h=>.of (h.1 _ _ hf7)) rfl (fun i ys H8 v hv h=>?_) (fun ys H8 h=>?_)⟩
  ·obtain ⟨_,_,rs,hr1,_,hd⟩:=h
   rw[<- hd.len,b7];exact hr1
  ·obtain ⟨g8,hin,rs,hr1,hr2,hd⟩:=h
   rw[m7] at hv
   obtain ⟨k,hk',ev⟩:=Option.map_eq_some_iff.mp hv
   subst ev
   have hik:=(List.getElem?_eq_some_iff.mp hk').1
   have hkn:=hlt k (t7 hk')
   have hr8:=g8 _ _ hr7
   have hkl:k<=(ns.map V.int).length:=by rw[b7];lia
   have ea:jt (ns.map V.int) (some (k:Int)) none=(ns.drop k).map V.int:=by rw[zX hkl,List.map_drop]
   have eb:jt (ns.map V.int) none (some (k:Int))=(ns.take k).map V.int:=by rw[zV hkl,List.map_take]
   refine ⟨_,rfl,_,rfl,_,rfl,rw,_,rfl,hr8,fun p1 H9 g9 hp1=>⟨_,rfl,_,rfl,_,rfl,rw,_,rfl,g9 _ _ hr8,fun p2 HA gA hp2=>?_⟩⟩
   rw[ea] at hp1
   rw[eb] at hp2
   refine ⟨p1,p2,_,_,rfl,rfl,gA _ _ hp1,hp2,(by rw[b7,b7,A6,m8];lia),fun p HB gB hpB=>?_⟩
   have gAll:=(g9.trans gA).trans gB
   have gTot:=g8.trans gAll
   have sB:=s7.same gTot
   refine ⟨gTot,by lia,rs++[ns.drop k++ns.take k],by rw[n8,hr1];rfl,fun r' hr'=>?_,?_⟩
   ·rcases List.mem_append.mp hr' with h|h
    ·exact hr2 r' h
    ·rw[List.mem_singleton.mp h]
     refine ⟨by rw[n8,A6,m8];lia,fun z hz=>?_⟩
     have hz':z∈ns:=by
      rcases List.mem_append.mp hz with h|h
      ·exact K8 h
      ·exact v7 h
     exact hb z hz'
   ·rw[j7]
    exact (hd.kp (gAll.kp l)).append (Q6.cons (Dt.mkI (sB.neL hpB) (by rw[hpB,j7])) (Q6.nil _ _))
  ·obtain ⟨g8,_,rs,hr1,hr2,hd⟩:=h
   rw[b7,hk] at hr1
   exact fun p hp=>⟨p,_,rfl,.inl ⟨.of i6,fun ra hra=>fin rs ys H8 p ra (s7.same g8) hr1 hr2 hd hp hra⟩⟩
 refine ⟨_,rfl,rfl,_,rfl,uO (fun _=>?_) (fun _=>?_)⟩
 ·refine ⟨_,rfl,(n:Int),rfl,lo62,hi62,?_⟩
  refine T1 (lo:=0) (n:=n) (sz (by lia)) (fun i ys H3=>cj l b H H3/\∃rs:List (List Int),rs.length=i/\(∀r∈rs,Mt.zZ n 5 r)/\Q6 l H3 (rs.map DI) ys)
   ⟨s5,[],rfl,by simp,Q6.nil _ _⟩ (fun i ys H3 h=>?_) rfl (fun i ys H3 hi h=>?_) (fun ys H3 h=>?_)
  ·obtain ⟨_,rs,hr1,_,hd⟩:=h
   rw[<- hd.len,b7];exact hr1
  ·obtain ⟨s3,rs,hr1,hr2,hd⟩:=h
   refine ⟨_,rfl,(n:Int),rfl,lo62,hi62,?_⟩
   refine T1 (lo:=0) (n:=n) (sz (by lia)) (fun j zs H4=>cj l b H H4/\Kp l H3 H4/\∃r:List Int,zs=r.map V.int/\r.length=j/\∀z∈r,0<=z/\z<=5)
    ⟨s3,Kp.refl _ _,[],rfl,rfl,by simp⟩ (fun j zs H4 h=>?_) rfl (fun j zs H4 hj h=>?_) (fun zs H4 h=>?_)
   ·obtain ⟨_,_,r,rfl,hr,_⟩:=h
    rw[b7];exact hr
   ·obtain ⟨s4,k4,r,rfl,hr,hz⟩:=h
    refine ⟨_,rfl,_,rfl,_,rfl,_,_,rfl,rfl,_,rfl,_,_,rfl,rfl,(by lia),rfl,.inr ⟨_,rfl,_,_,rfl,rfl,.inl ⟨by lia,by lia⟩,?_⟩⟩
    refine ⟨s4,k4,r++[_],by rw[j7];rfl,by rw[n8,hr];rfl,fun z hz'=>?_⟩
    rcases List.mem_append.mp hz' with h|h
    ·exact hz z h
    ·rw[List.mem_singleton.mp h]
     split <;> lia
   ·obtain ⟨s4,k4,r,rfl,hr,hz⟩:=h
    intro p hp
    have s5:cj l b H (v8 H4 p (.lst (r.map V.int))):=s4.new hp
    refine ⟨p,_,rfl,.inl ⟨.of i6,fun t ht=>?_⟩⟩
    have kk:Kp l H3 (v8 (v8 H4 p (.lst (r.map V.int))) t (.tup (r.map V.int))):=(k4.trans (Kp.new hp)).trans (Kp.new ht)
    refine ⟨s5.new ht,rs++[r],by rw[n8,hr1];rfl,fun r' hr'=>?_,?_⟩
    ·rcases List.mem_append.mp hr' with h|h
     ·exact hr2 r' h
     ·rw[List.mem_singleton.mp h];exact ⟨hr,hz⟩
    ·rw[j7]
     exact (hd.kp kk).append (Q6.cons (Dt.mkI (s5.ne ht).symm i6) (Q6.nil _ _))
  ·obtain ⟨s3,rs,hr1,hr2,hd⟩:=h
   exact fun p hp=>⟨p,_,rfl,.inl ⟨.of i6,fun ra hra=>fin rs ys H3 p ra s3 hr1 hr2 hd hp hra⟩⟩
 refine ⟨_,rfl,(n:Int),rfl,lo62,hi62,?_⟩
 refine T1 (lo:=0) (n:=n) (sz (by lia)) (fun i ys H3=>cj l b H H3/\∃rs:List (List Int),rs.length=i/\(∀r∈rs,Mt.zZ n 5 r)/\Q6 l H3 (rs.map DI) ys)
  ⟨s5,[],rfl,by simp,Q6.nil _ _⟩ (fun i ys H3 h=>?_) rfl (fun i ys H3 hi h=>?_) (fun ys H3 h=>?_)
 ·obtain ⟨_,rs,hr1,_,hd⟩:=h
  rw[<- hd.len,b7];exact hr1
 ·obtain ⟨s3,rs,hr1,hr2,hd⟩:=h
  refine ⟨_,rfl,(n:Int),rfl,lo62,hi62,?_⟩
  refine T1 (lo:=0) (n:=n) (sz (by lia)) (fun j zs H4=>cj l b H H4/\Kp l H3 H4/\∃r:List Int,zs=r.map V.int/\r.length=j/\∀z∈r,0<=z/\z<=5)
   ⟨s3,Kp.refl _ _,[],rfl,rfl,by simp⟩ (fun j zs H4 h=>?_) rfl (fun j zs H4 hj h=>?_) (fun zs H4 h=>?_)
  ·obtain ⟨_,_,r,rfl,hr,_⟩:=h
   rw[b7];exact hr
  ·obtain ⟨s4,k4,r,rfl,hr,hz⟩:=h
   obtain ⟨_,x5,hx5,ok5⟩:=id s4
   refine ⟨_,rfl,l,6,x5,b,rfl,hx5,ok5,by decide,by decide,fun y x6 hy ok6=>?_⟩
   refine ⟨s4.go ok6,k4.trans Kp.at,r++[(y:Int)],by rw[j7];rfl,by rw[n8,hr];rfl,fun z hz'=>?_⟩
   rcases List.mem_append.mp hz' with h|h
   ·exact hz z h
   ·rw[List.mem_singleton.mp h];lia
  ·obtain ⟨s4,k4,r,rfl,hr,hz⟩:=h
   intro p hp
   have s5:cj l b H (v8 H4 p (.lst (r.map V.int))):=s4.new hp
   refine ⟨p,_,rfl,.inl ⟨.of i6,fun t ht=>?_⟩⟩
   have kk:Kp l H3 (v8 (v8 H4 p (.lst (r.map V.int))) t (.tup (r.map V.int))):=(k4.trans (Kp.new hp)).trans (Kp.new ht)
   refine ⟨s5.new ht,rs++[r],by rw[n8,hr1];rfl,fun r' hr'=>?_,?_⟩
   ·rcases List.mem_append.mp hr' with h|h
    ·exact hr2 r' h
    ·rw[List.mem_singleton.mp h];exact ⟨hr,hz⟩
   ·rw[j7]
    exact (hd.kp kk).append (Q6.cons (Dt.mkI (s5.ne ht).symm i6) (Q6.nil _ _))
 ·obtain ⟨s3,rs,hr1,hr2,hd⟩:=h
  exact fun p hp=>⟨p,_,rfl,.inl ⟨.of i6,fun ra hra=>fin rs ys H3 p ra s3 hr1 hr2 hd hp hra⟩⟩
end
noncomputable def DH (d:w6):Prop:=cn d/\∀ds,d=.tuple ds->∀r∈ds,cn r
section
variable {Pr:Hp->V->Prop}{m m1 m2:Nat}{ta tb te:TE}{σ:L2.St}{H:Hp}
end
end G
namespace L2
open PySem PySem.Spec PyProof.Rows
noncomputable def TL (H:Hp):List (List Int)->List V->Prop
 | [],[]=>True
 | z::zs,x::xs=>(∃a,x=.ref a/\H a=some (.tup (z.map V.int)))/\TL H zs xs
 | _,_=>False
theorem TL.len {H:Hp}:∀{zs:List (List Int)}{xs:List V},TL H zs xs->zs.length=xs.length
 | [],[],_=>rfl
 | z::zs,x::xs,h=>by rw[p4,p4,TL.len h.2]
 | [],_::_,h=>h.elim
 | _::_,[],h=>h.elim
theorem TL.get {H:Hp}:∀{zs:List (List Int)}{xs:List V}{i:Nat}{x:V},TL H zs xs->xs[i]?=some x->∃z a,zs[i]?=some z/\x=.ref a/\H a=some (.tup (z.map V.int))
 | z::zs,x::xs,0,y,h,e=>by
  obtain ⟨a,ea,q⟩:=h.1
  cases e
  exact ⟨z,a,rfl,ea,q⟩
 | z::zs,x::xs,i+1,y,h,e=>TL.get (i:=i) h.2 e
 | [],[],i,y,h,e=>by simp at e
 | [],_::_,i,y,h,e=>h.elim
 | _::_,[],i,y,h,e=>h.elim
theorem Cu:∀a b:List Int,E1 (a.map E8) (b.map E8)=decide (a=b)
 | [],[]=>by unfold E1;rfl
 | [],y::b=>by
  show E1 [] (.int y::b.map E8)=_
  unfold E1;rfl
 | x::a,[]=>by
  show E1 (.int x::a.map E8) []=_
  unfold E1;rfl
 | x::a,y::b=>by
  show E1 (.int x::a.map E8) (.int y::b.map E8)=_
  unfold E1
  rw[Cu a b]
  unfold aq
  by_cases h:x=y
  ·subst h;simp
  ·simp[h]
open PySem.W (KasT)
section
variable {n:Nat} (hn:0<n)
include hn
end
end L2
namespace L2
open PySem PySem.Spec PyProof.Rows
section
variable {prog:f6}{w:j6}{A:r6}{E:b8->b9->Prop}{s:b9}
end
section
variable {prog:f6}{w:j6}{A:r6}{E:b8->b9->Prop}{s:b9}{v d:Addr}{od:Obj}{es:Array N3}{ep:Nat}
end
section
variable {prog:f6}{w:j6}{A:r6}{E:b8->b9->Prop}{s:b9}
end
section
variable {prog:f6}{w:j6}{A:r6}{E:b8->b9->Prop}{s:b9}
end
theorem dQ {α β:Type}{f:α->β}:∀{l:List β}{m:List α},l.Perm (m.map f)->∃m':List α,m'.Perm m/\l=m'.map f
 | [],m,h=>by
  have e:m.map f=[]:=h.nil_eq.symm
  rw[List.map_eq_nil_iff] at e
  exact ⟨[],by rw[e],rfl⟩
 | b::l,m,h=>by
  have hb:b∈m.map f:=h.mem_iff.mp f7
  obtain ⟨x,hx,e⟩:=List.mem_map.mp hb
  obtain ⟨p,q,em⟩:=List.append_of_mem hx
  subst em e
  have h2:(f x::l).Perm (f x::(p++q).map f):=h.trans (by
   rw[j7,j8,j7]
   exact List.perm_middle)
  obtain ⟨m',h3,e3⟩:=dQ (m:=p++q) h2.cons_inv
  exact ⟨x::m',(h3.cons x).trans List.perm_middle.symm,by rw[e3];rfl⟩
section
variable {X:Cx}{pins:List (Addr × Obj)}{σ:St}{H:Hp}{s:b9}
theorem A9.lays {N:Hp}{h':Heap}{t':Nat} (I:A9 X pins σ H s) (k:∀b u,s.heap.get? b=some u->h'.get? b=some u)
  (ok:∀b o,s.heap.objs.size<=b->N b=some o->J8 X.prog X.w (fun b=>if b<s.heap.objs.size then H b else N b) h' b o):
  A9 X pins σ (fun b=>if b<s.heap.objs.size then H b else N b) { s with heap:=h',toks:=t' }:=by
 have lo:∀b o,H b=some o->(fun b=>if b<s.heap.objs.size then H b else N b) b=some o:=fun b o e=>by
  show (if b<s.heap.objs.size then H b else N b)=some o
  rw[if_pos (I.hok.lt e)];exact e
 refine I.un ⟨fun b o q _ _ _=>k b o q,fun b o q _ _ _=>⟨o.slots,k b o q⟩,fun b o q n _=>?_,fun b o q _=>⟨o,k b o q⟩,fun b xs q=>lo b _ q,fun b o u q=>lo b _ q,fun b ps q=>⟨#[],(lo b _ q).trans (by simp)⟩⟩ fun b o e=>?_
 ·show (if b<s.heap.objs.size then H b else N b)=none
  rw[if_pos (i4 q)];exact n
 ·by_cases hb:b<s.heap.objs.size
  ·have e':H b=some o:=by
    have:(if b<s.heap.objs.size then H b else N b)=some o:=e
    rwa [if_pos hb] at this
   exact (I.hok b o e').stay (fun c v _ q=>k c v q) (fun c q=>lo c _ q) fun c xs q=>lo c _ q
  ·have e':N b=some o:=by
    have:(if b<s.heap.objs.size then H b else N b)=some o:=e
    rwa [if_neg hb] at this
   exact ok b o (CH hb) e'
end
section
variable {K:m6}{σ0:St}{te:TE}{H:Hp}{F:List V->Hp->Prop}
theorem xH {a:Addr}{xs:List V} (hn:xs.length<=i8) (Pv:Nat->List V->Hp->Prop) (h0:Pv 0 [] H) (hl:∀i ys H,Pv i ys H->ys.length=i) (hq:∀i ys H,i<=xs.length->Pv i ys H->eA K H a xs) (hσ:σ0[0]?=some none/\σ0[1]?=some none)
  (hs:∀i ys H x,xs[i]?=some x->Pv i ys H->∃r y z,x=.ref r/\bV K H r [y,z]/\te ((σ0.set 0 (some y)).set 1 (some z)) H fun u H'=>Pv (i+1) (ys++[u]) H') (hd:∀ys H,Pv xs.length ys H->F ys H):
  Ac (Cw K a) σ0 (pW K 2 (bL (T6 0) (bL (T6 1) sf))) M0 te H F:=by
 refine ⟨fun i m ys H=>m=xs.length - i/\i<=xs.length/\Pv i ys H,⟨xs.length,by simp,j5 _,h0⟩,?_⟩
 rintro i m ys H2 ⟨rfl,hi,p⟩
 have q:=hq i ys H2 hi p
 refine ⟨by rw[hl i ys H2 p];lia,?_⟩
 by_cases hlt:i<xs.length
 ·refine .inr ⟨⟨xs,xs[i],q,by simp[hlt]⟩,fun y H'=>Pv (i+1) (ys++[y]) H',fun _=>False,fun y H' q=>⟨xs.length - (i+1),by lia,rfl,hlt,q⟩,fun _ q=>q.elim,fun x H3 y=>?_⟩
  obtain ⟨rfl,y⟩:=y
  obtain ⟨r,y1,z1,rfl,hr,ht⟩:=hs i ys _ x (y xs q) p
  exact ⟨r,[y1,z1],rfl,hr,rfl,y1,[z1],rfl,z1,[],rfl,rfl,wk2 hσ _ _,ht⟩
 ·have e:i=xs.length:=by lia
  subst e
  exact .inl ⟨⟨xs,q,d9 _⟩,hd ys H2 p⟩
end
theorem sF:∀ns:List Int,E6 (ns.map E8)=true
 | []=>rfl
 | n::ns=>by
  show E6 (.int n::ns.map E8)=true
  unfold E6
  rw[sF ns]
  first|rfl|simp[J7]
theorem wg:∀ns:List Int,F4 (ns.map E8)<=1
 | []=>by first|decide|simp[F4]
 | n::ns=>by
  have:=wg ns
  show F4 (.int n::ns.map E8)<=1
  unfold F4
  have h:R9 (.int n)<=1:=by first|decide|simp[R9]
  lia
theorem zD (ns:List Int):J7 (DI ns)=true/\R9 (DI ns)<=2:=by
 refine ⟨?_,?_⟩
 ·show J7 (.tuple (ns.map E8))=true
  unfold J7
  exact sF ns
 ·have:=wg ns
  show R9 (.tuple (ns.map E8))<=2
  unfold R9
  lia
theorem qZ (ns:List Int):S1 (DI ns)=true:=by
 unfold S1
 rw[u7]
 exact ⟨(zD ns).1,decide_eq_true (by have:=(zD ns).2;lia)⟩
theorem BJ (a b:List Int):aq (DI a) (DI b)=decide (a=b):=by unfold DI aq;exact Cu a b
theorem Bx {H:Hp}{x y:V}{a b:List Int}{l:Addr}{Q:VK} (hx:Dt l H (DI a) x) (hy:Dt l H (DI b) y) (q:Q (.bl (!decide (a=b))) H):Dy x y H Q:=by
 refine ⟨l,DI a,DI b,hx,hy,qZ a,qZ b,?_⟩
 rw[BJ];exact q
end L2
namespace Mq
open PySem PySem.Spec L2 Mt Md
noncomputable abbrev v5:=List (List Int × Rat)
noncomputable def U9:v5->List Int->Rat->v5
 | [],k,x=>[(k,x)]
 | p::D,k,x=>if p.1=k then (p.1,p.2+x)::D else p::U9 D k x
noncomputable def Y7:v5->List Int->Rat
 | [],_=>0
 | p::D,k=>if p.1=k then p.2 else Y7 D k
noncomputable def M5:v5->(List Int->Rat)->Rat
 | [],_=>0
 | p::D,φ=>p.2*φ p.1+M5 D φ
theorem C5 (p:List Int × Rat) (D:v5) (φ:List Int->Rat):M5 (p::D) φ=p.2*φ p.1+M5 D φ:=rfl
theorem lG (k:List Int) (x:Rat) (φ:List Int->Rat):∀D:v5,M5 (U9 D k x) φ=M5 D φ+x*φ k
 | []=>by show x*φ k+0=0+x*φ k;grind
 | p::D=>by
  unfold U9
  split
  ·rename_i e
   rw[C5,C5]
   show (p.2+x)*φ p.1+_=_
   rw[e];grind
  ·rw[C5,C5,lG k x φ D];grind
theorem jm {φ:List Int->Rat}{T T':v5} (h:T.Perm T'):M5 T φ=M5 T' φ:=by
 induction h with
 | nil=>rfl
 | cons p _ ih=>rw[C5,C5,ih]
 | swap p q l=>rw[C5,C5,C5,C5];grind
 | trans _ _ h1 h2=>rw[h1,h2]
theorem lF (φ:List Int->Rat):∀T:v5,M5 T φ=P9 (T.map fun p=>φ p.1*p.2)
 | []=>rfl
 | p::T=>by rw[C5,lF φ T,j8];show _=φ p.1*p.2+_;grind
theorem cg {k:List Int}{x:Rat}:∀{D:v5}{p:List Int × Rat},p∈U9 D k x->p.1=k ∨ ∃q∈D,q.1=p.1
 | [],p,h=>by
  unfold U9 at h
  rw[List.mem_singleton.mp h];exact .inl rfl
 | q::D,p,h=>by
  unfold U9 at h
  split at h
  ·rcases List.mem_cons.mp h with z|z
   ·subst z;exact .inr ⟨q,f7,rfl⟩
   ·exact .inr ⟨p,i3 _ z,rfl⟩
  ·rcases List.mem_cons.mp h with z|z
   ·subst z;exact .inr ⟨_,f7,rfl⟩
   ·rcases cg z with y|⟨r,hr,e⟩
    ·exact .inl y
    ·exact .inr ⟨r,i3 _ hr,e⟩
theorem rV (k:List Int) (x:Rat):∀D:v5,(U9 D k x).length<=D.length+1
 | []=>by unfold U9;simp
 | p::D=>by
  unfold U9
  split
  ·simp
  ·have:=rV k x D
   rw[p4,p4];lia
noncomputable def bI (D:v5):Prop:=(D.map (·.1)).Nodup
theorem pI {k:List Int}{x:Rat}:∀{D:v5},bI D->bI (U9 D k x)
 | [],_=>by unfold U9 bI;simp
 | p::D,h=>by
  unfold bI at h
  rw[j8,K4] at h
  unfold U9
  split
  ·unfold bI;rw[j8,K4];exact h
  ·rename_i e
   unfold bI;rw[j8,K4]
   refine ⟨fun z=>?_,pI h.2⟩
   obtain ⟨q,hq,eq⟩:=List.mem_map.mp z
   rcases cg hq with y|⟨r,hr,er⟩
   ·exact e (by rw[<- eq,y])
   ·exact h.1 (List.mem_map.mpr ⟨r,hr,by rw[er,eq]⟩)
noncomputable def eB (H:Hp) (x:Rat) (v:V):Prop:=∃q,v=.ref q/\H q=some (.tup ((fr x).map V.int))
variable {x:Rat}
theorem eB.same {H H':Hp}{v:V} (h:∀a xs,H a=some (.tup xs)->H' a=some (.tup xs)):eB H x v->eB H' x v:=fun ⟨q,e,a⟩=>⟨q,e,h _ _ a⟩
noncomputable def QE (H:Hp):v5->List (List V3 × V)->Prop
 | [],[]=>True
 | p::T,kv::kvs=>kv.1=kI p.1/\eB H p.2 kv.2/\QE H T kvs
 | _,_=>False
theorem QE.mono {H H':Hp} (h:∀a xs,H a=some (.tup xs)->H' a=some (.tup xs)):∀{T:v5}{kvs:List (List V3 × V)},QE H T kvs->QE H' T kvs
 | [],[],_=>trivial
 | _::_,_::_,⟨a,b,c⟩=>⟨a,b.same h,QE.mono h c⟩
 | [],_::_,h'=>h'.elim
 | _::_,[],h'=>h'.elim
theorem QE.len {H:Hp}:∀{T:v5}{kvs:List (List V3 × V)},QE H T kvs->kvs.length=T.length
 | [],[],_=>rfl
 | _::_,_::_,⟨_,_,c⟩=>by rw[p4,p4,QE.len c]
 | [],_::_,h'=>h'.elim
 | _::_,[],h'=>h'.elim
theorem QE.get {H:Hp}:∀{T:v5}{kvs:List (List V3 × V)}{i:Nat}{k:List V3}{x:V},QE H T kvs->kvs[i]?=some (k,x)->∃p,T[i]?=some p/\k=kI p.1/\eB H p.2 x
 | p::_,_::_,0,_,_,⟨a,b,_⟩,h=>by cases h;exact ⟨p,rfl,a,b⟩
 | _::_,_::_,i+1,_,_,⟨_,_,c⟩,h=>QE.get (i:=i) c (by simpa using h)
 | [],[],_,_,_,_,h=>by simp at h
 | [],_::_,_,_,_,h',_=>h'.elim
 | _::_,[],_,_,_,h',_=>h'.elim
theorem QE.val {H:Hp}{k:List Int}{z:V} (hz:eB H 0 z):∀{T:v5}{kvs:List (List V3 × V)},QE H T kvs->eB H (Y7 T k) ((iT kvs (kI k)).getD z)
 | [],[],_=>hz
 | p::T,kv::kvs,⟨a,b,c⟩=>by
  obtain ⟨kk,x⟩:=kv
  have a:kk=kI p.1:=a
  subst a
  unfold Y7
  by_cases e:p.1=k
  ·rw[if_pos e,eE (by rw[e])];exact b
  ·rw[if_neg e,eF (fun z=>e (fe z))];exact QE.val hz c
 | [],_::_,h'=>h'.elim
 | _::_,[],h'=>h'.elim
theorem QE.any {H:Hp}{k:List Int}:∀{T:v5}{kvs:List (List V3 × V)},QE H T kvs->(kvs.any fun kv=>decide (kv.1=kI k))=decide (k∈T.map (·.1))
 | [],[],_=>rfl
 | p::T,kv::kvs,⟨a,_,c⟩=>by
  obtain ⟨kk,x⟩:=kv
  have a:kk=kI p.1:=a
  subst a
  show (decide (kI p.1=kI k) || kvs.any _)=_
  rw[QE.any c]
  by_cases e:p.1=k
  ·rw[decide_eq_true (show kI p.1=kI k by rw[e]),vj,decide_eq_true (by rw[<- e];simp)]
  ·rw[decide_eq_false (fun z=>e (fe z)),tq]
   congr 1
   simp[G8 e]
 | [],_::_,h'=>h'.elim
 | _::_,[],h'=>h'.elim
theorem QE.keep {H:Hp}{k:List Int}{v:V}:∀{T:v5}{kvs:List (List V3 × V)},QE H T kvs->¬ k∈T.map (·.1)->kvs.map (fun kv=>if kv.1=kI k then (kv.1,v) else kv)=kvs
 | [],[],_,_=>rfl
 | p::T,kv::kvs,⟨a,_,c⟩,h=>by
  obtain ⟨kk,x⟩:=kv
  have a:kk=kI p.1:=a
  subst a
  rw[j8,y3,not_or] at h
  show (if kI p.1=kI k then (kI p.1,v) else (kI p.1,x))::kvs.map _=(kI p.1,x)::kvs
  rw[if_neg (fun z=>h.1 (fe z).symm),QE.keep c h.2]
 | [],_::_,h',_=>h'.elim
 | _::_,[],h',_=>h'.elim
theorem QE.snoc {H:Hp}{k:List Int}{x:Rat}{v:V} (hv:eB H x v):∀{T:v5}{kvs:List (List V3 × V)},QE H T kvs->QE H (T++[(k,x)]) (kvs++[(kI k,v)])
 | [],[],_=>⟨rfl,hv,trivial⟩
 | p::T,kv::kvs,⟨a,b,c⟩=>⟨a,b,QE.snoc hv c⟩
 | [],_::_,h'=>h'.elim
 | _::_,[],h'=>h'.elim
theorem qr {k:List Int}{x:Rat}:∀(D:v5),¬ k∈D.map (·.1)->U9 D k x=D++[(k,x)]
 | [],_=>rfl
 | p::D,h=>by
  rw[j8,y3,not_or] at h
  unfold U9
  rw[if_neg (G8 h.1),qr D h.2];rfl
theorem kc {k:List Int}:∀(D:v5),¬ k∈D.map (·.1)->Y7 D k=0
 | [],_=>rfl
 | p::D,h=>by
  rw[j8,y3,not_or] at h
  unfold Y7
  rw[if_neg (G8 h.1),kc D h.2]
theorem QE.put {H:Hp}{k:List Int}{v:V}:∀{T:v5}{kvs:List (List V3 × V)},QE H T kvs->bI T->eB H (Y7 T k+x) v->QE H (U9 T k x) (ja kvs (kI k) v):=by
 intro T kvs q nd hv
 unfold ja
 rw[q.any]
 by_cases hk:k∈T.map (·.1)
 ·rw[decide_eq_true hk,if_pos rfl]
  induction T generalizing kvs with
  | nil=>simp at hk
  | cons p T ih =>
   cases kvs with
   | nil=>exact q.elim
   | cons kv kvs =>
    obtain ⟨a,b,c⟩:=q
    obtain ⟨kk,y⟩:=kv
    have a:kk=kI p.1:=a
    subst a
    unfold bI at nd
    rw[j8,K4] at nd
    unfold U9
    by_cases e:p.1=k
    ·rw[if_pos e]
     show QE H _ ((if kI p.1=kI k then _ else _)::kvs.map _)
     rw[if_pos (by rw[e]),c.keep (by rw[<- e];exact nd.1)]
     unfold Y7 at hv
     rw[if_pos e] at hv
     exact ⟨rfl,hv,c⟩
    ·rw[if_neg e]
     show QE H _ ((if kI p.1=kI k then _ else _)::kvs.map _)
     rw[if_neg (fun z=>e (fe z))]
     unfold Y7 at hv
     rw[if_neg e] at hv
     have hk':k∈T.map (·.1):=by
      rw[j8,y3] at hk
      exact hk.resolve_left (G8 e)
     exact ⟨rfl,b,ih c nd.2 hv hk'⟩
 ·rw[decide_eq_false hk,if_neg (by decide),qr T hk]
  rw[kc T hk] at hv
  refine QE.snoc ?_ q
  rw[show (0:Rat)+x=x by grind] at hv
  exact hv
noncomputable def K9 (x:Rat) (s:Int):List (Int × List Int)->v5->v5
 | [],D=>D
 | b::bs,D=>K9 x s bs (U9 D b.2 (x*cut b.1 s))
theorem gq (x:Rat) (s:Int) (b:Int × List Int):∀(bs:List (Int × List Int)) (D:v5),K9 x s (bs++[b]) D=U9 (K9 x s bs D) b.2 (x*cut b.1 s)
 | [],D=>rfl
 | c::bs,D=>by
  show K9 x s (bs++[b]) (U9 D c.2 (x*cut c.1 s))=_
  rw[gq x s b bs];rfl
theorem nu (x:Rat) (s:Int) (φ:List Int->Rat):∀(bs:List (Int × List Int)) (D:v5),M5 (K9 x s bs D) φ=M5 D φ+x*P9 (bs.map fun b=>cut b.1 s*φ b.2)
 | [],D=>by show _=_+x*0;unfold K9;grind
 | b::bs,D=>by
  unfold K9
  rw[nu x s φ bs,lG,j8]
  show _=_+x*(cut b.1 s*φ b.2+P9 _)
  grind
structure Vq (N B:Nat) (x:Rat):Prop where
 nn:0<=x
 le:x<=(B:Rat)
 dv:∃z:Int,x*(N:Rat)=(z:Rat)
variable {N B C:Nat}
theorem Vq.mono (h:Vq N B x) (l:B<=C):Vq N C x:=⟨h.nn,by
 have:((B:Nat):Rat)<=((C:Nat):Rat):=by exact_mod_cast l
 have:=h.le
 grind,h.dv⟩
theorem Vq.zero (N B:Nat):Vq N B 0:=⟨by grind,by exact_mod_cast j5 B,0,by grind⟩
variable {y:Rat}
theorem Vq.add (h:Vq N B x) (k:Vq N C y):Vq N (B+C) (x+y):=by
 obtain ⟨z,hz⟩:=h.dv
 obtain ⟨t,ht⟩:=k.dv
 have h1:=h.nn;have h2:=h.le;have k1:=k.nn;have k2:=k.le
 refine ⟨by grind,?_,z+t,?_⟩
 ·have:((B+C:Nat):Rat)=(B:Rat)+(C:Rat):=by push_cast;rfl
  grind
 ·have:((z+t:Int):Rat)=(z:Rat)+(t:Rat):=by push_cast;rfl
  grind
theorem Vq.mul {M:Nat}(h:Vq N B x) (k:Vq M C y):Vq (N*M) (B*C) (x*y):=by
 obtain ⟨z,hz⟩:=h.dv
 obtain ⟨t,ht⟩:=k.dv
 have h1:=h.nn;have h2:=h.le;have k1:=k.nn;have k2:=k.le
 have hB:(0:Rat)<=(B:Rat):=by grind
 refine ⟨Fi h1 k1,?_,z*t,?_⟩
 ·have e:((B*C:Nat):Rat)=(B:Rat)*(C:Rat):=by push_cast;rfl
  rw[e]
  have a1:=ml h2 k1
  have a2:=Rat.mul_le_mul_of_nonneg_left k2 hB
  grind
 ·have e1:((N*M:Nat):Rat)=(N:Rat)*(M:Rat):=by push_cast;rfl
  have e2:((z*t:Int):Rat)=(z:Rat)*(t:Rat):=by push_cast;rfl
  rw[e1,e2,<- hz,<- ht];grind
theorem Vq.one (N:Nat):Vq N 1 1:=⟨by grind,by grind,N,by
 have:((N:Int):Rat)=(N:Rat):=by norm_cast
 grind⟩
noncomputable def LL:Nat:=(G5 200).foldl (fun a i=>Nat.lcm a (i+1)) 1
theorem El {s:Nat} (h0:0<s) (h:s<=200):∃q,LL=s*q:=by
 have h1:(G5 201).all (fun s=>s == 0 || LL % s == 0)=true:=by decide +kernel
 have h2:=List.all_eq_true.mp h1 s (List.mem_range.mpr (by lia))
 have h3:LL % s=0:=by
  have:(s == 0)=false:=by simp;lia
  rw[this,tq] at h2
  exact beq_iff_eq.mp h2
 exact ⟨LL / s,(Nat.mul_div_cancel' (Nat.dvd_of_mod_eq_zero h3)).symm⟩
theorem sQ:LL<=2 ^ 300:=by decide +kernel
theorem lP:0<LL:=by decide +kernel
variable {s:Int}
theorem ir {t:Int} (hs:0<s):cut t s*(s:Rat)=(t:Rat):=by
 unfold cut
 have e:(((s.toNat:Nat):Int):Rat)=(s:Rat):=by congr 1;lia
 rw[Rat.mkRat_eq_div,<- e]
 have h:((s.toNat:Nat):Rat)≠0:=by
  intro z
  have:s.toNat=0:=by exact_mod_cast z
  lia
 have e2:(((s.toNat:Nat):Int):Rat)=((s.toNat:Nat):Rat):=by norm_cast
 rw[e2]
 exact Rat.div_mul_cancel h
theorem fu {s:Rat} (hs:0<s) (h:x*s<=y*s):x<=y:=Rat.le_of_mul_le_mul_right h hs
theorem xg {s:Rat} (hs:0<s) (h:x*s=y*s):x=y:=by
 have h1:=fu hs (show x*s<=y*s by grind)
 have h2:=fu hs (show y*s<=x*s by grind)
 grind
theorem sE (hs:0<s):(0:Rat)<(s:Rat):=by exact_mod_cast hs
theorem pZ {t:Int} (h0:0<=t) (h1:t<=s) (hs:0<s) (h2:s<=200):Vq LL 1 (cut t s):=by
 have hm:=ir (t:=t) hs
 have hp:=sE hs
 obtain ⟨q,hq⟩:=El (s:=s.toNat) (by lia) (by lia)
 refine ⟨fu hp ?_,fu hp ?_,t*q,?_⟩
 ·rw[hm]
  have:(0:Rat)<=(t:Rat):=by exact_mod_cast h0
  grind
 ·rw[hm]
  have:(t:Rat)<=(s:Rat):=by exact_mod_cast h1
  have e:((1:Nat):Rat)=1:=rfl
  rw[e];grind
 ·rw[hq]
  have e1:((s.toNat*q:Nat):Rat)=((s.toNat:Nat):Rat)*(q:Rat):=by push_cast;rfl
  have e2:((s.toNat:Nat):Rat)=(s:Rat):=by
   have:(((s.toNat:Nat):Int):Rat)=(s:Rat):=by congr 1;lia
   rw[<- this];norm_cast
  have e3:((t*(q:Int):Int):Rat)=(t:Rat)*(q:Rat):=by push_cast;rfl
  rw[e1,e2,e3,<- hm];grind
variable {n:Nat}
theorem Vq.bd (h:Vq N B x) (h0:0<N) (h1:N*B<=2 ^ n) (h2:N<=2 ^ n):Bd n x:=by
 obtain ⟨z,hz⟩:=h.dv
 have hp:(0:Int)<(N:Int):=by lia
 have hm:=ir (t:=z) hp
 have e:(((N:Nat):Int):Rat)=(N:Rat):=by norm_cast
 rw[e] at hm
 have hq:(0:Rat)<(N:Rat):=by rw[<- e];exact sE hp
 have ex:x=cut z N:=xg hq (by rw[hz,hm])
 have l0:(0:Rat)<=(z:Rat):=by rw[<- hz];exact Fi h.nn (by grind)
 have l1:(z:Rat)<=((B*N:Nat):Rat):=by
  have e2:((B*N:Nat):Rat)=(B:Rat)*(N:Rat):=by push_cast;rfl
  rw[<- hz,e2]
  exact ml h.le (by grind)
 have m0:0<=z:=by exact_mod_cast l0
 have m1:z<=((B*N:Nat):Int):=by exact_mod_cast l1
 rw[ex]
 rw[Nat.mul_comm] at h1
 exact Bd.cut hp (by lia) (by lia)
theorem zC:∀{l:List Int},(∀x∈l,0<=x)->∀x∈l,x<=l.sum
 | [],_,x,h=>by simp at h
 | a::l,h,x,hx=>by
  have h1:=h a f7
  have h2:=cm fun y hy=>h y (i3 _ hy)
  rw[P8]
  rcases List.mem_cons.mp hx with e|e
  ·lia
  ·have:=zC (fun y hy=>h y (i3 _ hy)) x e
   lia
variable {m:Nat}{u:List Int}
theorem ag (h:Y9 n m u) (k:Nat):u.getD k 0<=u.sum:=by
 rw[t8]
 cases e:u[k]? with
 | none=>have:=h.pos;show (0:Int)<=_;lia
 | some x=>exact zC (fun x hx=>(h.nn x hx).1) x (t7 e)
theorem fq (h:Y9 n m u) (n4:n<=4) (hm:m<=50):u.sum<=200:=by
 have:=Mt.sum_le (m:=50) (l:=u) fun x hx=>by have:=(h.nn x hx).2;lia
 rw[h.len] at this
 lia
theorem kT (h:Y9 n m u) (n4:n<=4) (hm:m<=50) (k:Nat):Vq LL 1 (Q0 u k):=pZ (h.getD k).1 (ag h k) h.pos (fq h n4 hm)
noncomputable def aF (N B:Nat) (D:v5):Prop:=∀p∈D,Vq N B p.2
theorem aF.add {N B C:Nat}{k:List Int}{x:Rat} (hx:Vq N C x):∀{D:v5},aF N B D->aF N (B+C) (U9 D k x)
 | [],_=>fun p hp=>by
  unfold U9 at hp
  rw[List.mem_singleton.mp hp]
  exact hx.mono (by lia)
 | q::D,h=>fun p hp=>by
  unfold U9 at hp
  split at hp
  ·rcases List.mem_cons.mp hp with z|z
   ·rw[z];exact (h q f7).add hx
   ·exact (h p (i3 _ z)).mono (by lia)
  ·rcases List.mem_cons.mp hp with z|z
   ·rw[z];exact (h q f7).mono (by lia)
   ·exact aF.add hx (fun r hr=>h r (i3 _ hr)) p z
theorem aF.val {N B:Nat}{k:List Int}:∀{D:v5},aF N B D->Vq N B (Y7 D k)
 | [],_=>Vq.zero N B
 | q::D,h=>by
  unfold Y7
  split
  ·exact h q f7
  ·exact aF.val fun r hr=>h r (i3 _ hr)
theorem aF.mono {N B C:Nat}{D:v5} (h:aF N B D) (l:B<=C):aF N C D:=fun p hp=>(h p hp).mono l
noncomputable def GR (n m:Nat) (D:v5):Prop:=∀p∈D,Y9 n m p.1
theorem gE (k:Nat):LL ^ k<=2 ^ (300*k):=by
 rw[Nat.pow_mul];exact Nat.pow_le_pow_left sQ k
theorem bW (k:Nat):0<LL ^ k:=Nat.pow_pos lP
noncomputable def fH (H:Hp):List Rat->List V->Prop
 | [],[]=>True
 | x::xs,v::vs=>eB H x v/\fH H xs vs
 | _,_=>False
theorem fH.mono {H H':Hp} (h:∀a xs,H a=some (.tup xs)->H' a=some (.tup xs)):∀{xs:List Rat}{vs:List V},fH H xs vs->fH H' xs vs
 | [],[],_=>trivial
 | _::_,_::_,⟨a,b⟩=>⟨a.same h,fH.mono h b⟩
 | [],_::_,h'=>h'.elim
 | _::_,[],h'=>h'.elim
theorem fH.snoc {H:Hp}{x:Rat}{v:V} (hv:eB H x v):∀{xs:List Rat}{vs:List V},fH H xs vs->fH H (xs++[x]) (vs++[v])
 | [],[],_=>⟨hv,trivial⟩
 | _::_,_::_,⟨a,b⟩=>⟨a,fH.snoc hv b⟩
 | [],_::_,h'=>h'.elim
 | _::_,[],h'=>h'.elim
theorem fH.len {H:Hp}:∀{xs:List Rat}{vs:List V},fH H xs vs->vs.length=xs.length
 | [],[],_=>rfl
 | _::_,_::_,⟨_,b⟩=>by rw[p4,p4,fH.len b]
 | [],_::_,h'=>h'.elim
 | _::_,[],h'=>h'.elim
theorem fH.get {H:Hp}:∀{xs:List Rat}{vs:List V}{i:Nat}{v:V},fH H xs vs->vs[i]?=some v->∃x,xs[i]?=some x/\eB H x v
 | x::_,_::_,0,_,⟨a,_⟩,h=>by cases h;exact ⟨x,rfl,a⟩
 | _::_,_::_,i+1,_,⟨_,b⟩,h=>fH.get (i:=i) b (by simpa using h)
 | [],[],_,_,_,h=>by simp at h
 | [],_::_,_,_,h',_=>h'.elim
 | _::_,[],_,_,h',_=>h'.elim
theorem gT {N B:Nat}:∀{xs:List Rat},(∀x∈xs,Vq N B x)->Vq N (B*xs.length) (P9 xs)
 | [],_=>Vq.zero N _
 | x::xs,h=>by
  have h1:=gT fun y hy=>h y (i3 _ hy)
  have h2:=(h x f7).add h1
  exact h2.mono (by rw[p4,V1];lia)
theorem iU (xs:List Rat) (x:Rat):P9 (xs++[x])=P9 xs+x:=by
 rw[ae];show _+(x+0)=_;grind
end Mq
namespace G
open PySem PySem.Spec PyProof.Rows L2 Mt Md Mq
structure Ct2 (mg:Str->Option b8):Prop where
 stand:∃t,mg "MOST_STAND_DRAWS"=some (.int 6 t)
structure GX (mg:Str->Option b8):Prop where
 enumerate:mg "enumerate"=none
 sorted:mg "sorted"=none
theorem FK {k:Int} (h1:1<=k) (h4:k<=4):Sm k:=by
 have h:k=1 ∨ k=2 ∨ k=3 ∨ k=4:=by lia
 rcases h with rfl|rfl|rfl|rfl <;> (unfold Sm;decide +kernel)
theorem fo {m:Int}{d:w6} (h:br m d=true):∃ns:List Int,d=DI ns/\1<=ns.length/\ns.length<=4/\(∀x∈ns,0<=x/\x<=m)/\0<ns.sum:=by
 unfold br at h
 rw[u7,u7,u7] at h
 obtain ⟨hw,⟨h1,h4⟩,hs⟩:=h
 obtain ⟨ns,e,hn⟩:=dG hw
 subst e
 rw[aD] at h1 h4
 rw[oo] at hs
 have h1':=of_decide_eq_true h1
 have h4':=of_decide_eq_true h4
 exact ⟨ns,rfl,by lia,by lia,hn,of_decide_eq_true hs⟩
variable {n:Nat}
theorem S5 {i:Int}(h:i.natAbs<=2 ^ n) (hn:n<=100000):t9 i<=2 ^ 20:=by
 unfold t9
 split
 ·exact j5 _
 ·rename_i hz
  have hz':i.natAbs≠0:=fun e=>hz (by rw[beq_iff_eq];lia)
  have h2:i.natAbs.log2<n+1:=(ck hz').mpr (F3 h (S7 (by decide) (by lia)))
  lia
theorem zx {i:Int}(h0:0<i) (h:i.natAbs<=2 ^ n) (hn:n<8999):i.natAbs.log2<9000:=by
 rw[ck (by lia)]
 exact F3 h (S7 (by decide) (by lia))
theorem se {x y:Int} (hx:0<=x) (hy:0<y):O4 y (x % y)=O4 x y:=by
 have h1:(x % y).natAbs=x.natAbs % y.natAbs:=by
  rw[Int.natAbs_emod_of_nonneg hx]
 unfold O4
 rw[h1,Ij x.natAbs,Nat.gcd_rec y.natAbs x.natAbs,Ij]
theorem DZ {t b:Int} (ht:0<=t) (hb:0<b):0<=(cut t b).num:=by
 rw[qb hb];exact EC ht (by lia)
theorem qX {m:Nat}{ns:List Int} (h:Y9 n m ns) (k:Nat):0<=Mt.Q0 ns k:=Rat.num_nonneg.mp (DZ (h.getD k).1 h.pos)
theorem Y9.sum_le {n m:Nat}{ns:List Int} (h:Mt.Y9 n m ns) (hn:n<=4):ns.sum<=(m:Int)*4:=by
 have:=Mt.sum_le (m:=(m:Int)) (l:=ns) fun x hx=>(h.nn x hx).2
 rw[h.len] at this
 refine B7 this (Int.mul_le_mul_of_nonneg_left (by lia) (by lia))
theorem qY {m:Nat}{ns:List Int} (h:Mt.Y9 n m ns) (hn:n<=4) (hm:m<=1000) (k:Nat):Bd 12 (Mt.Q0 ns k):=by
 have h1:=h.getD k
 have h2:=Y9.sum_le h hn
 have h3:=h.pos
 refine Bd.cut h.pos ?_ ?_
 ·show _<=4096;lia
 ·show _<=4096;lia
mutual
theorem Aa {l T:Addr}{H:Hp}{ps:List (List V3 × V)} (hT:H T=some (.dT ps)):∀{d:w6}{v:V},Dt l H d v->Dt T H d v
 | .none,_,h=>by unfold Dt at h ⊢;exact h
 | .bool _,_,h=>by unfold Dt at h ⊢;exact h
 | .int _,_,h=>by unfold Dt at h ⊢;exact h
 | .str _,_,h=>by unfold Dt at h ⊢;exact h
 | .tuple ds,_,h=>by
  unfold Dt at h ⊢
  obtain ⟨a,xs,e,n,q,r⟩:=h
  exact ⟨a,xs,e,(fun z=>by rw[z,hT] at q;cases q),q,qx hT r⟩
 | .list ds,_,h=>by
  unfold Dt at h ⊢
  obtain ⟨a,xs,e,n,q,r⟩:=h
  exact ⟨a,xs,e,(fun z=>by rw[z,hT] at q;cases q),q,qx hT r⟩
 | .dict kvs,_,h=>by
  unfold Dt at h ⊢
  obtain ⟨z,a,e,n,q⟩:=h
  exact ⟨z,a,e,(fun z=>by rw[z,hT] at q;cases q),q⟩
theorem qx {l T:Addr}{H:Hp}{ps:List (List V3 × V)} (hT:H T=some (.dT ps)):∀{ds:List w6}{xs:List V},Q6 l H ds xs->Q6 T H ds xs
 | [],_,h=>by unfold Q6 at h ⊢;exact h
 | d::ds,_,h=>by
  unfold Q6 at h ⊢
  obtain ⟨x,r,e,q1,q2⟩:=h
  exact ⟨x,r,e,Aa hT q1,qx hT q2⟩
end
theorem sm_0:Sm 0:=by unfold Sm;decide +kernel
theorem de (h:n<=10000):n<i8:=by rw[K3];lia
section
variable {P:f6}{w:j6}{K:m6}{mg:Str->Option b8}{base:Heap}{f:Addr}{fd:A7}{ec:Nat->Addr}{Bs:Addr}
noncomputable def cI (ec:Nat->Addr):Sp:=fun vs H Q E=>∃(v:V) (st:Addr) (d:w6),vs=[v]/\Dt st H d v/\cn d/\(br 20 d=true->∀H',j4 H H'->Q .non H')/\(br 20 d=false->∀H',j4 H H'->E (.ref (ec 0)) none H')
noncomputable abbrev gh:Stmt:=ef 24
theorem rh:A2 ["thing"] ["thing"] (u0 gh):=⟨rfl,rfl,rfl,by decide +kernel,rfl,by decide +kernel,by decide +kernel⟩
theorem rK (F:bC K "need_urn" "need_urn" gh f fd) (R:sR K mg ec Bs) (c1:U4 P w K mg base 4 "is_urn" ["thing"] ft):L3 P w K mg base (jY P w) 5 f fd ["thing"] (cI ec):=by
 refine F.okX rh (fun vs H Q E h=>?_) (fun cdv A outer s H vs Q E hr h=>?_)
 ·obtain ⟨v,st,d,rfl,_⟩:=h
  rfl
 obtain ⟨v,st,d,rfl,hd,hs,q1,q2⟩:=h
 refine ⟨_,q5 (T5 (cQ (bG (w5 c1 hr rfl (b6 (pv 0) d8)))) (q5 (dj R.e0 (R.xc 0 (by decide)) uq (fun σ H Q Q' m q=>m _ _ q))) J1),?_⟩
 refine ⟨_,rfl,v,st,d,rfl,hd,hs,fun H1 g1=>⟨_,rfl,?_⟩⟩
 cases hw:br 20 d with
 | true=>exact ak (q1 hw H1 g1)
 | false=>exact bB (q2 hw H1 g1)
noncomputable def bR (ec:Nat->Addr):Sp:=fun vs H Q E=>∃(v:V) (st:Addr) (d:w6) (k:Int),vs=[.int k,v]/\1<=k/\k<=4/\Dt st H d v/\DH d/\(fM k d=true->∀H',j4 H H'->Q .non H')/\(fM k d=false->∀H',j4 H H'->E (.ref (ec 1)) none H')
noncomputable abbrev eM:Stmt:=ef 25
theorem oA:A2 ["kinds","thing"] ["kinds","thing"] (u0 eM):=⟨rfl,rfl,rfl,by decide +kernel,rfl,by decide +kernel,by decide +kernel⟩
theorem pA (F:bC K "need_rule" "need_rule" eM f fd) (R:sR K mg ec Bs) (c1:Z9 P w K mg base 3 "is_rule" ["kinds","thing"] (fX ec)):L3 P w K mg base (jY P w) 4 f fd ["kinds","thing"] (bR ec):=by
 refine F.okX oA (fun vs H Q E h=>?_) (fun cdv A outer s H vs Q E hr h=>?_)
 ·obtain ⟨v,st,d,k,rfl,_⟩:=h
  rfl
 obtain ⟨v,st,d,k,rfl,k1,k4,hd,ok,q1,q2⟩:=h
 refine ⟨_,q5 (T5 (cQ (bG (O6 c1 hr rfl aA (b6 (pv 0) (b6 (pv 1) d8))))) (q5 (dj R.e1 (R.xc 1 (by decide)) (vL (oU (uk (pv 0) (oU yQ)))) (fun σ H Q Q' m q=>?_))) J1),?_⟩
 ·obtain ⟨v1,z1,i1,z2,z3,z4,z5⟩:=q
  exact ⟨v1,z1,i1,z2,z3,z4,fun z=>m _ _ (z5 z)⟩
 refine ⟨_,rfl,_,rfl,.int k,v,st,.int k,d,rfl,Dt.int _ _ _,(fun hw=>?_),fun k' e _ _=>?_⟩
 ·have hw':(decide ((1:Int)<=k)&&decide (k<=4))=false:=hw
  rw[decide_eq_true k1,decide_eq_true k4] at hw'
  cases hw'
 cases e
 refine ⟨hd,ok.1,ok.2,fun H1 g1=>⟨_,rfl,?_⟩⟩
 cases hw:fM k d with
 | true=>exact ak (q1 hw H1 g1)
 | false=>exact bB ⟨_,rfl,k,rfl,(FK k1 k4).1,(FK k1 k4).2,fun z=>q2 hw H1 g1⟩
noncomputable def yz:Sp:=fun vs H Q _=>∃x y:Int,vs=[.int x,.int y]/\0<=x/\0<=y/\Q (.int (O4 x y:Nat)) H
noncomputable abbrev Dq:Stmt:=ef 12
theorem Cm:A2 ["one","other"] ["one","other"] (u0 Dq):=⟨rfl,rfl,rfl,by decide +kernel,rfl,by decide +kernel,by decide +kernel⟩
theorem Gu (F:bC K "greatest_divisor" "greatest_divisor" Dq f fd) (B:Bt mg):L3 P w K mg base dA 1 f fd ["one","other"] yz:=by
 refine F.ok Cm (fun vs H Q E h=>?_) (fun cdv A outer s H vs Q E hr h=>?_)
 ·obtain ⟨x,y,rfl,_⟩:=h
  rfl
 obtain ⟨x,y,rfl,hx,hy,q⟩:=h
 refine ⟨_,m9 (rC E3 (P7 zc (pv 1) j9 (N4 _)) (q5 (lq (i:=0) (j:=1) rfl Cm.nd rfl rfl (by decide) rfl rfl (b6 (pv 1) (b6 (D9 cR (pv 0) (pv 1)) d8)) rfl)))
  (q5 (B8 (A0 sG rfl B.abs boot_abs (b6 (pv 0) d8)))),?_⟩
 refine ⟨fun m σ H2=>H2=H/\∃x' y':Int,0<=x'/\0<=y'/\σ=[some (.int x'),some (.int y')]/\m=y'.toNat/\O4 x' y'=O4 x y,⟨_,rfl,x,y,hx,hy,rfl,rfl,rfl⟩,?_⟩
 rintro m σ H2 ⟨rfl,x',y',h1,h2,rfl,rfl,e⟩
 refine ⟨_,rfl,rfl,_,rfl,?_⟩
 by_cases hz:y'=0
 ·subst hz
  rw[decide_eq_true rfl]
  refine ak ⟨_,rfl,x',rfl,?_⟩
  have e2:(if x'<0 then -x' else x')=((O4 x y:Nat):Int):=by
   rw[<- e,AI]
   split <;> lia
  rw[e2];exact q
 ·rw[decide_eq_false (show ¬ V.int y'=V.int 0 from fun z=>hz (by injection z))]
  refine bB ⟨fun σ' H'=>H'=H2/\∃a b:Int,0<=a/\0<=b/\σ'=[some (.int a),some (.int b)]/\b.toNat<y'.toNat/\O4 a b=O4 x y,?_,?_⟩
  ·rintro σ' H' ⟨rfl,a,b,ha,hb,rfl,hlt,e2⟩
   exact ⟨_,hlt,rfl,a,b,ha,hb,rfl,rfl,e2⟩
  ·have hm:=aI x' (show y'≠0 from hz)
   have hm2:=W3 x' (show 0<y' by lia)
   refine ⟨_,rfl,_,rfl,_,rfl,_,_,rfl,rfl,(by lia),_,_,rfl,?_⟩
   exact ⟨rfl,y',x' % y',h2,hm,rfl,by lia,by rw[se h1 (by lia)];exact e⟩
noncomputable def bw:Sp:=fun vs H Q _=>∃t b:Int,vs=[.int t,.int b]/\0<=t/\0<b/\b.natAbs.log2<9000/\∀p H',j4 H H'->H' p=some (.tup ((fr (cut t b)).map V.int))->Q (.ref p) H'
noncomputable abbrev gm:Stmt:=ef 13
theorem jG:A2 ["top","bottom","divisor"] ["top","bottom"] (u0 gm):=⟨rfl,rfl,rfl,by decide +kernel,rfl,by decide +kernel,by decide +kernel⟩
theorem wc {t b:Int} (hb:0<b) (h:b.natAbs.log2<9000):0<((O4 t b:Nat):Int)/\((O4 t b:Nat):Int).natAbs.log2<9000:=by
 have h0:0<O4 t b:=Int.gcd_pos_of_ne_zero_right _ (by lia)
 refine ⟨by lia,?_⟩
 rw[K7]
 have l:O4 t b<=b.natAbs:=Nat.le_of_dvd (by lia) (Nat.gcd_dvd_right _ _)
 rw[ck (by lia)] at h ⊢
 lia
theorem rN (F:bC K "fraction" "fraction" gm f fd) (c1:U4 P w K mg base 1 "greatest_divisor" ["one","other"] yz):L3 P w K mg base dA 2 f fd ["top","bottom"] bw:=by
 refine F.ok jG (fun vs H Q E h=>?_) (fun cdv A outer s H vs Q E hr h=>?_)
 ·obtain ⟨x,y,rfl,_⟩:=h
  rfl
 obtain ⟨t,b,rfl,ht,hb,hlog,q⟩:=h
 refine ⟨_,m9 (G4 (i:=2) jG.nd rfl (t5 rfl) (w5 c1 hr rfl (b6 (pv 0) (b6 (pv 1) d8))))
  (q5 (B8 (O5 (b6 (D9 ic (pv 0) (pv 2)) (b6 (D9 ic (pv 1) (pv 2)) d8))))),?_⟩
 have g:=wc (t:=t) hb hlog
 refine ⟨_,rfl,_,rfl,t,b,rfl,ht,by lia,?_⟩
 refine ⟨_,rfl,_,rfl,_,_,rfl,rfl,g,_,rfl,_,rfl,_,_,rfl,rfl,g,(by show 2<=i8;decide),fun p hp=>?_⟩
 refine q p _ (j4.new hp) ?_
 rw[i6,zM hb];rfl
noncomputable def bt:Sp:=fun vs H Q _=>∃(p q:Addr) (x y:Rat) (n m:Nat),vs=[.ref p,.ref q]/\H p=some (.tup ((fr x).map V.int))/\H q=some (.tup ((fr y).map V.int))/\0<=x.num/\0<=y.num/\Bd n x/\Bd m y/\n+m<=8000 /\
 ∀r H',j4 H H'->H' r=some (.tup ((fr (x*y)).map V.int))->Q (.ref r) H'
noncomputable abbrev oG:Stmt:=ef 15
theorem yA:A2 ["one","other"] ["one","other"] (u0 oG):=⟨rfl,rfl,rfl,by decide +kernel,rfl,by decide +kernel,by decide +kernel⟩
theorem zg (F:bC K "times" "times" oG f fd) (c1:U4 P w K mg base 2 "fraction" ["top","bottom"] bw):L3 P w K mg base dA 3 f fd ["one","other"] bt:=by
 refine F.ok yA (fun vs H Q E h=>?_) (fun cdv A outer s H vs Q E hr h=>?_)
 ·obtain ⟨p,q,x,y,n,m,rfl,_⟩:=h
  rfl
 obtain ⟨p,q,x,y,n,m,rfl,hp,hq,x0,y0,bx,by',hnm,k⟩:=h
 refine ⟨_,q5 (B8 (w5 c1 hr rfl (b6 (D9 aZ (G9 L5 (pv 0) j9 (fun _ _=>rfl)) (G9 L5 (pv 1) j9 (fun _ _=>rfl))) (b6 (D9 aZ (G9 L5 (pv 0) j9 (fun _ _=>rfl)) (G9 L5 (pv 1) j9 (fun _ _=>rfl))) d8)))),?_⟩
 have hp':H p=some (.tup [.int x.num,.int x.den]):=hp
 have hq':H q=some (.tup [.int y.num,.int y.den]):=hq
 have b1:t9 x.num<=2 ^ 20:=S5 bx.num (by lia)
 have b2:t9 y.num<=2 ^ 20:=S5 by'.num (by lia)
 have b3:t9 (x.den:Int)<=2 ^ 20:=S5 (by rw[K7];exact bx.den) (by lia)
 have b4:t9 (y.den:Int)<=2 ^ 20:=S5 (by rw[K7];exact by'.den) (by lia)
 refine ⟨_,rfl,p,_,_,_,rfl,rfl,.of hp',C6 (j:=0) rfl,_,rfl,q,_,_,_,rfl,rfl,.of hq',C6 (j:=0) rfl,_,_,rfl,rfl,⟨b1,b2⟩,
  _,rfl,p,_,_,_,rfl,rfl,.of hp',C6 (j:=1) rfl,_,rfl,q,_,_,_,rfl,rfl,.of hq',C6 (j:=1) rfl,_,_,rfl,rfl,⟨b3,b4⟩,_,_,rfl,bp x0 y0,?_,?_,?_⟩
 ·have h1:=x.den_nz;have h2:=y.den_nz
  have:=aK (N6 h1) (N6 h2)
  rw[<- X2];lia
 ·rw[ck (by have h1:=x.den_nz;have h2:=y.den_nz;rw[U7];exact X0 (by lia) (by lia)),U7]
  refine F3 (u4 bx.den by'.den) ?_
  rw[<- D5]
  exact S7 (by decide) (by lia)
 ·rw[wt];exact k
noncomputable def aw:Sp:=fun vs H Q _=>∃(p q:Addr) (x y:Rat) (n m:Nat),vs=[.ref p,.ref q]/\H p=some (.tup ((fr x).map V.int))/\H q=some (.tup ((fr y).map V.int))/\0<=x.num/\0<=y.num/\Bd n x/\Bd m y/\n+m<=8000 /\
 ∀r H',j4 H H'->H' r=some (.tup ((fr (x+y)).map V.int))->Q (.ref r) H'
noncomputable abbrev ud:Stmt:=ef 14
theorem AZ:A2 ["one","other"] ["one","other"] (u0 ud):=⟨rfl,rfl,rfl,by decide +kernel,rfl,by decide +kernel,by decide +kernel⟩
theorem Bu (F:bC K "plus" "plus" ud f fd) (c1:U4 P w K mg base 2 "fraction" ["top","bottom"] bw):L3 P w K mg base dA 3 f fd ["one","other"] aw:=by
 refine F.ok AZ (fun vs H Q E h=>?_) (fun cdv A outer s H vs Q E hr h=>?_)
 ·obtain ⟨p,q,x,y,n,m,rfl,_⟩:=h
  rfl
 obtain ⟨p,q,x,y,n,m,rfl,hp,hq,x0,y0,bx,by',hnm,k⟩:=h
 refine ⟨_,q5 (B8 (w5 c1 hr rfl (b6 (D9 aR (D9 aZ (G9 L5 (pv 0) j9 (fun _ _=>rfl)) (G9 L5 (pv 1) j9 (fun _ _=>rfl))) (D9 aZ (G9 L5 (pv 1) j9 (fun _ _=>rfl)) (G9 L5 (pv 0) j9 (fun _ _=>rfl)))) (b6 (D9 aZ (G9 L5 (pv 0) j9 (fun _ _=>rfl)) (G9 L5 (pv 1) j9 (fun _ _=>rfl))) d8)))),?_⟩
 have hp':H p=some (.tup [.int x.num,.int x.den]):=hp
 have hq':H q=some (.tup [.int y.num,.int y.den]):=hq
 have b1:t9 x.num<=2 ^ 20:=S5 bx.num (by lia)
 have b2:t9 y.num<=2 ^ 20:=S5 by'.num (by lia)
 have b3:t9 (x.den:Int)<=2 ^ 20:=S5 (by rw[K7];exact bx.den) (by lia)
 have b4:t9 (y.den:Int)<=2 ^ 20:=S5 (by rw[K7];exact by'.den) (by lia)
 refine ⟨_,rfl,p,_,_,_,rfl,rfl,.of hp',C6 (j:=0) rfl,_,rfl,q,_,_,_,rfl,rfl,.of hq',C6 (j:=1) rfl,_,_,rfl,rfl,⟨b1,b4⟩,
  _,rfl,q,_,_,_,rfl,rfl,.of hq',C6 (j:=0) rfl,_,rfl,p,_,_,_,rfl,rfl,.of hp',C6 (j:=1) rfl,_,_,rfl,rfl,⟨b2,b3⟩,_,_,rfl,rfl,
  _,rfl,p,_,_,_,rfl,rfl,.of hp',C6 (j:=1) rfl,_,rfl,q,_,_,_,rfl,rfl,.of hq',C6 (j:=1) rfl,_,_,rfl,rfl,⟨b3,b4⟩,_,_,rfl,?_,?_,?_,?_⟩
 ·exact Fm (bp x0 (by lia)) (bp y0 (by lia))
 ·have h1:=x.den_nz;have h2:=y.den_nz
  have:=aK (N6 h1) (N6 h2)
  rw[<- X2];lia
 ·rw[ck (by have h1:=x.den_nz;have h2:=y.den_nz;rw[U7];exact X0 (by lia) (by lia)),U7]
  refine F3 (u4 bx.den by'.den) ?_
  rw[<- D5]
  exact S7 (by decide) (by lia)
 ·rw[wz];exact k
noncomputable def kM:Sp:=fun vs H Q _=>∃(a:Addr) (ys:List V) (xs:List Rat) (N B n:Nat),vs=[.ref a]/\H a=some (.lst ys)/\fH H xs ys/\(∀x∈xs,Vq N B x)/\0<N/\N*(B*xs.length+B)<=2 ^ n/\N<=2 ^ n/\n<=4000 /\
 ∀r H',j4 H H'->H' r=some (.tup ((fr (P9 xs)).map V.int))->Q (.ref r) H'
noncomputable abbrev oE:Stmt:=ef 16
theorem gY:A2 ["fractions","so_far","part"] ["fractions"] (u0 oE):=⟨rfl,rfl,rfl,by decide +kernel,rfl,by decide +kernel,by decide +kernel⟩
theorem zf (F:bC K "total" "total" oE f fd) (c1:U4 P w K mg base 3 "plus" ["one","other"] aw):L3 P w K mg base dA 4 f fd ["fractions"] kM:=by
 refine F.ok gY (fun vs H Q E h=>?_) (fun cdv A outer s H vs Q E hr h=>?_)
 ·obtain ⟨a,ys,xs,N,B,n,rfl,_⟩:=h
  rfl
 obtain ⟨a,ys,xs,N,B,n,rfl,ha,hx,hv,h0,h1,h2,hn,q⟩:=h
 refine ⟨_,m9 (G4 (i:=1) gY.nd rfl (t5 rfl) (O5 (b6 j9 (b6 j9 d8))))
  (m9 (bH E3 rfl (V2 (pv 0)) (O0 (i:=2) gY.nd rfl (t5 rfl))
   (q5 (G4 (i:=1) gY.nd rfl (t5 rfl) (w5 c1 hr rfl (b6 (pv 1) (b6 (pv 2) d8))))))
  (q5 (B8 (pv 1)))),?_⟩
 refine ⟨(by show 2<=i8;decide),fun c hc=>?_⟩
 have s2:j4 H (v8 H c (.tup [.int 0,.int 1])):=j4.new hc
 refine ⟨_,rfl,a,rfl,⟨_,.of (s2 _ _ ha)⟩,?_⟩
 refine iq (K:=K) (a:=a) (xs:=ys) (fun i σ H2=>j4 H H2/\i<=ys.length/\∃c o,σ=[some (.ref a),some (.ref c),o]/\H2 c=some (.tup ((fr (P9 (xs.take i))).map V.int)))
  ⟨s2,j5 _,c,none,rfl,i6⟩ (fun i σ H2 _ h=>.of (h.1 _ _ ha)) (fun i t σ H2 ht h=>?_) (fun σ H2 h=>?_)
 ·obtain ⟨g2,hi,c,o,rfl,hc2⟩:=h
  obtain ⟨x,ex,q',rfl,hq'⟩:=hx.get ht
  have hil:=(List.getElem?_eq_some_iff.mp ex).1
  have v1:Vq N B x:=hv x (t7 ex)
  have v2:Vq N (B*xs.length) (P9 (xs.take i)):=(gT fun y hy=>hv y (v7 hy)).mono (B0 _ (by rw[m8];lia))
  have d1:Bd n x:=v1.bd h0 (f9 (B0 _ (K5 _ _)) h1) h2
  have d2:Bd n (P9 (xs.take i)):=v2.bd h0 (f9 (B0 _ (u9 _ _)) h1) h2
  refine ⟨_,rfl,_,rfl,c,q',P9 (xs.take i),x,n,n,rfl,hc2,g2 _ _ hq',Rat.num_nonneg.mpr v2.nn,Rat.num_nonneg.mpr v1.nn,d2,d1,by lia,fun r H3 g3 hr3=>⟨g2.trans g3,(List.getElem?_eq_some_iff.mp ht).1,r,_,rfl,?_⟩⟩
  rw[t6,ex]
  show _=some (HO.tup ((fr (P9 (xs.take i++[x]))).map V.int))
  rw[iU];exact hr3
 ·obtain ⟨g2,_,c,o,rfl,hc2⟩:=h
  rw[hx.len,u5] at hc2
  exact ⟨_,rfl,q c H2 g2 hc2⟩
noncomputable def eG:Sp:=fun vs H Q _=>∃(a:Addr) (n m:Nat) (ns:List Int) (k:Nat),vs=[.ref a,.int k]/\H a=some (.tup (ns.map V.int))/\Mt.Y9 n m ns/\n<=4/\m<=1000/\k<n/\∀p H',j4 H H'->H' p=some (.tup ((fr (Mt.Q0 ns k)).map V.int))->Q (.ref p) H'
noncomputable abbrev oI:Stmt:=ef 27
theorem yB:A2 ["urn","kind"] ["urn","kind"] (u0 oI):=⟨rfl,rfl,rfl,by decide +kernel,rfl,by decide +kernel,by decide +kernel⟩
theorem zi (F:bC K "share" "share" oI f fd) (B:Bt mg) (c1:U4 P w K mg base 2 "fraction" ["top","bottom"] bw):L3 P w K mg base dA 3 f fd ["urn","kind"] eG:=by
 refine F.ok yB (fun vs H Q E h=>?_) (fun cdv A outer s H vs Q E hr h=>?_)
 ·obtain ⟨a,n,m,ns,k,rfl,_⟩:=h
  rfl
 obtain ⟨a,n,m,ns,k,rfl,ha,hu,h4,hm,hk,q⟩:=h
 refine ⟨_,q5 (B8 (w5 c1 hr rfl (b6 (G9 L5 (pv 0) (pv 1) (fun _ _=>rfl)) (b6 (A0 (aE rfl) rfl B.sum fT (b6 (pv 0) d8)) d8)))),?_⟩
 have h2:=Y9.sum_le hu h4
 have h3:=hu.pos
 refine ⟨_,rfl,_,rfl,a,_,_,_,rfl,rfl,.of ha,qo (by rw[hu.len];exact hk),_,rfl,a,ns,rfl,.inr (.of ha),_,_,rfl,(hu.getD k).1,h3,zx (n:=12) h3 (by show _<=4096;lia) (by lia),q⟩
noncomputable def iV:Sp:=fun vs H Q _=>∃(a st:Addr) (v:V) (n j:Nat) (ns:List Int) (rs:List (List Int)) (k:Nat),vs=[.ref a,v,.int k]/\H a=some (.tup (ns.map V.int))/\ns.length=n/\Dt st H (DR rs) v/\Mt.jW n j rs/\n<=4/\k<n /\
 ∀p H',j4 H H'->H' p=some (.tup ((N7 ns (rs.getD k [])).map V.int))->Q (.ref p) H'
noncomputable abbrev kX:Stmt:=ef 28
theorem wY:A2 ["urn","rule","kind"] ["urn","rule","kind"] (u0 kX):=⟨rfl,rfl,rfl,by decide +kernel,rfl,by decide +kernel,by decide +kernel⟩
theorem xk (F:bC K "put_in" "put_in" kX f fd) (B:Bt mg):L3 P w K mg base dA 1 f fd ["urn","rule","kind"] iV:=by
 refine F.ok wY (fun vs H Q E h=>?_) (fun cdv A outer s H vs Q E hr h=>?_)
 ·obtain ⟨a,st,v,n,j,ns,rs,k,rfl,_⟩:=h
  rfl
 obtain ⟨a,st,v,n,j,ns,rs,k,rfl,ha,hn,hd,hru,h4,hk,q⟩:=h
 refine ⟨_,q5 (B8 (J4 F8 rfl B.tuple N0 (b6 (F5 (N:=["balls","more"]) (ix:=[none,none]) (ifs:=[]) (tc:=M0) rfl
   (yT rfl B.zip (b6 (pv 0) (b6 (G9 L5 (pv 1) (pv 2) (fun _ _=>rfl)) d8)))
   (fun s H ex=>jS (K:=K) (n:=2) rfl rfl (v9 (Q5 (i:=0) (by decide +kernel) rfl (t5 rfl) (.inr rfl)) (v9 (Q5 (i:=1) (by decide +kernel) rfl (t5 rfl) (.inr rfl)) R5))) (fun s H ex=>D8)
   (fun s H ex=>D9 aR (pv 0) (pv 1)) rfl (by decide +kernel) (by rfl) (by rfl) (fun _=>rfl)) d8))),?_⟩
 obtain ⟨r,xs,b,e,hr2,hx,hb⟩:=zT hd (by rw[hru.len];exact hk)
 subst e
 have hrow:=hru.at hk
 generalize hrw:rs.getD k []=row at *
 refine ⟨_,rfl,_,rfl,_,rfl,r,_,_,_,rfl,rfl,.of hr2,C6 hx,a,b,_,_,rfl,.of ha,.of hb,?_⟩
 have l1:ns.length=row.length:=by rw[hn,hrow.len]
 refine wB (K:=K) (a:=a) (b:=b) (xs:=ns.map V.int) (ys:=row.map V.int) (sz (by rw[b7];lia)) (by rw[b7,b7];exact l1)
  (fun i zs H2=>j4 H H2/\i<=n/\zs=((N7 ns row).take i).map V.int) ⟨j4.refl H,j5 _,rfl⟩ (fun i zs H2 h=>?_) (fun i zs H2 _ h=>⟨.of (h.1 _ _ ha),.of (h.1 _ _ hb)⟩) ⟨rfl,rfl⟩ (fun i zs H2 x y p hx hy hp h=>?_) (fun zs H2 h=>?_)
 ·obtain ⟨_,hil,rfl⟩:=h
  have:(N7 ns row).length=n:=by unfold N7;rw[aa,<- l1,hn];lia
  rw[b7,m8,this];lia
 ·obtain ⟨hS,hil,rfl⟩:=h
  have hi:i<ns.length:=by have:=(List.getElem?_eq_some_iff.mp hx).1;rwa [b7] at this
  have hi2:i<row.length:=by lia
  rw[m7,d0 hi] at hx
  rw[m7,d0 hi2] at hy
  cases hx
  cases hy
  refine ⟨_,rfl,_,rfl,_,_,rfl,rfl,hS.trans (j4.new hp),by lia,?_⟩
  have e:(N7 ns row)[i]?=some (ns[i]+row[i]):=by
   unfold N7;rw[fJ,d0 hi,d0 hi2]
  rw[t6,e,j7];rfl
 ·obtain ⟨hS,hil,rfl⟩:=h
  intro p hp
  refine ⟨p,_,rfl,.inl ⟨.of i6,fun l hl=>?_⟩⟩
  refine q l _ ((hS.trans (j4.new hp)).trans (j4.new hl)) ?_
  rw[i6,b7]
  have:(N7 ns row).length=ns.length:=by unfold N7;rw[aa,<- l1];lia
  rw[<- this,u5]
noncomputable def fW:Sp:=fun vs H Q _=>∃(a:Addr) (xs:List V),vs=[.ref a]/\H a=some (.tup xs)/\∀p H',j4 H H'->H' p=some (.tup xs)->Q (.ref p) H'
noncomputable abbrev iX:Stmt:=ef 29
theorem tW:A2 ["urn"] ["urn"] (u0 iX):=⟨rfl,rfl,rfl,by decide +kernel,rfl,by decide +kernel,by decide +kernel⟩
theorem uv (F:bC K "own_urn" "own_urn" iX f fd) (B:Bt mg):L3 P w K mg base dA 1 f fd ["urn"] fW:=by
 refine F.ok tW (fun vs H Q E h=>?_) (fun cdv A outer s H vs Q E hr h=>?_)
 ·obtain ⟨a,xs,rfl,_⟩:=h
  rfl
 obtain ⟨a,xs,rfl,ha,q⟩:=h
 refine ⟨_,q5 (B8 (J4 F8 rfl B.tuple N0 (b6 (J4 ql rfl B.list boot_list (b6 (pv 0) d8)) d8))),?_⟩
 refine ⟨_,rfl,a,_,rfl,.inr (.of ha),fun l hl=>⟨l,_,rfl,.inl ⟨.of i6,fun p hp=>?_⟩⟩⟩
 exact q p _ ((j4.new hl).trans (j4.new hp)) i6
end
end G
namespace Mq
open PySem PySem.Spec L2 Mt Md
theorem fc (φ:List Int->Rat):∀A B:v5,M5 (A++B) φ=M5 A φ+M5 B φ
 | [],B=>by show M5 B φ=0+_;grind
 | p::A,B=>by
  show M5 (p::(A++B)) φ=_
  rw[C5,C5,fc φ A B];grind
noncomputable def dd {α:Type} [DecidableEq α]:List α->List α
 | []=>[]
 | a::l=>if a∈dd l then dd l else a::dd l
theorem zw {α:Type} [DecidableEq α] {x:α}:∀{l:List α},x∈l->x∈dd l
 | a::l,h=>by
  unfold dd
  rcases List.mem_cons.mp h with e|e
  ·subst e
   split
   ·assumption
   ·exact f7
  ·have:=zw e
   split
   ·exact this
   ·exact i3 _ this
theorem uS {α:Type} [DecidableEq α] {x:α}:∀{l:List α},x∈dd l->x∈l
 | [],h=>h
 | a::l,h=>by
  unfold dd at h
  split at h
  ·exact i3 _ (uS h)
  ·rcases List.mem_cons.mp h with e|e
   ·subst e;exact f7
   ·exact i3 _ (uS e)
theorem zq {α:Type} [DecidableEq α]:∀{l m:List α},l.Nodup->(∀a∈l,a∈m)->l.length<=m.length
 | [],m,_,_=>j5 _
 | a::l,m,hn,h=>by
  rw[K4] at hn
  have ha:=h a f7
  have ih:=zq (l:=l) (m:=m.erase a) hn.2 fun b hb=>by
   have:b≠a:=fun e=>hn.1 (e ▸ hb)
   exact (List.mem_erase_of_ne this).mpr (h b (i3 _ hb))
  have:=List.length_erase_of_mem ha
  have hp:0<m.length:=List.length_pos_of_mem ha
  rw[p4];lia
noncomputable def qe (n:Nat):Nat->List (List Int)
 | 0=>[E4 n 0]
 | k+1=>dd ((qe n k).flatMap fun c=>(G5 n).map fun i=>EL c i)
theorem sC {n:Nat}:∀{k:Nat}{c:List Int},c∈qe n k->c.length=n
 | 0,c,h=>by rw[List.mem_singleton.mp h];simp
 | k+1,c,h=>by
  obtain ⟨c0,h0,h1⟩:=List.mem_flatMap.mp (uS (show c∈dd _ from h))
  obtain ⟨i,_,e⟩:=List.mem_map.mp h1
  rw[<- e];unfold EL;rw[cC];exact sC h0
theorem gu {x:Rat}{s:Int}:∀{bs:List (Int × List Int)}{D:v5}{p:List Int × Rat},p∈K9 x s bs D->(∃b∈bs,p.1=b.2) ∨ ∃q∈D,q.1=p.1
 | [],D,p,h=>.inr ⟨p,h,rfl⟩
 | b::bs,D,p,h=>by
  unfold K9 at h
  rcases gu h with ⟨c,hc,e⟩|⟨q,hq,e⟩
  ·exact .inl ⟨c,i3 _ hc,e⟩
  ·rcases cg hq with e2|⟨r,hr,e2⟩
   ·exact .inl ⟨b,f7,by rw[<- e,e2]⟩
   ·exact .inr ⟨r,hr,by rw[e2,e]⟩
theorem mU {u:List Int} (h:0<u.sum):∀i:Nat,P9 ((G5 i).map fun k=>Q0 u k*1)=Am u i
 | 0=>by rw[yN h];rfl
 | i+1=>by
  rw[mI,j7,ae,mU h i,rB h]
  show _+(Q0 u i*1+0)=_
  grind
theorem nv (φ ψ:List Int->Rat):∀T:v5,M5 T (fun u=>φ u+ψ u)=M5 T φ+M5 T ψ
 | []=>by show (0:Rat)=0+0;grind
 | p::T=>by rw[C5,C5,C5,nv φ ψ T];grind
theorem nk:∀T:v5,M5 T (fun _=>0)=0
 | []=>rfl
 | p::T=>by rw[C5,nk T];grind
theorem nq (φ:Nat->List Int->Rat) (T:v5):∀n:Nat,P9 ((G5 n).map fun i=>M5 T (φ i))=M5 T (fun u=>P9 ((G5 n).map fun i=>φ i u))
 | 0=>by
  show (0:Rat)=M5 T (fun _=>0)
  rw[nk]
 | n+1=>by
  rw[mI,j7,ae,nq φ T n]
  have e:(fun u=>P9 ((G5 n++[n]).map fun i=>φ i u))=fun u=>P9 ((G5 n).map fun i=>φ i u)+φ n u:=funext fun u=>by
   rw[j7,ae]
   show _+(φ n u+0)=_
   grind
  rw[e,nv]
  show _+(M5 T (φ n)+0)=_
  grind
end Mq
set_option maxHeartbeats 1000000
namespace So
open PySem PyProof.Rows
noncomputable def kj:Bool->i9->Array i9->Nat->Nat->Nat->StateT C9 Sem (Option Nat):=sortPriv% PySem.Builtin.gallop
section
variable {prog:f6}{w:j6}{A:r6}{E:b8->b9->Prop}{s:b9}{rk:i9->Int}{M:i9->Prop}{κ:aO}
noncomputable def sS (prog:f6) (w:j6) (A:r6) (s:b9) (rk:i9->Int) (M:i9->Prop) (κ:aO):Prop:=∀x y:i9,M x->M y->∀Q:Bool->b9->Prop,Q (decide (rk x<rk y)) s->i5 (n0 prog w) A (keyLt' κ x.1 y.1) Q (fun _ _=>False) s
variable {x:i9}{st:C9}
theorem kH {y:i9}{Q:Option Bool->C9->Prop} (hA:sS prog w A s rk M κ) (hk:kindOf st=κ) (hx:M x) (hy:M y) (h:Q (some (decide (rk x<rk y))) st):wpS (n0 prog w) A E s (lt' x y) Q st:=by
 rw[lt'_eq]
 refine d7 (S2 ?_)
 rw[hk]
 refine d7 (cO (U5 (F9 (hA x y hx hy (fun b s'=>s'=s/\b=decide (rk x<rk y)) ⟨rfl,rfl⟩) (fun b s' hb=>⟨hb.1,?_⟩) fun _ _ z=>z.elim)))
 obtain ⟨_,rfl⟩:=hb
 exact i7 h
variable {arr:Array i9}
theorem F7 {i:Nat}{Q:i9->C9->Prop} (h:arr[i]?=some x) (q:Q x st):wpS (n0 prog w) A E s (elem' arr i) Q st:=by
 rw[elem'_eq,h]
 exact i7 q
noncomputable def bq (rk:i9->Int) (left:Bool) (key x:i9):Bool:=if left=true then decide (rk x<rk key) else !decide (rk key<rk x)
theorem Ec {left:Bool}{key:i9}{i:Nat}{Q:Option Bool->C9->Prop} (hA:sS prog w A s rk M κ) (hk:kindOf st=κ) (hx:arr[i]?=some x) (mx:M x) (mk:M key) (h:Q (some (bq rk left key x)) st):
  wpS (n0 prog w) A E s (do let x <- elem' arr i;if left=true then lt' x key else do let r <- lt' key x;pure (xK (fun x=>!x) r)) Q st:=by
 refine d7 (F7 hx ?_)
 unfold bq at h
 cases left with
 | true =>
  rw[if_pos rfl] at h ⊢
  exact kH hA hk mx mk h
 | false =>
  rw[if_neg (by decide)] at h ⊢
  exact d7 (kH hA hk mk mx (i7 h))
theorem sJ {n lo hi:Nat}{f:Nat->Option (Option Nat) × Nat × Nat->StateT C9 Sem (ForInStep (Option (Option Nat) × Nat × Nat))}{P:Nat->Bool}{Q:Option (Option Nat) × Nat × Nat->C9->Prop}
  (hstep:∀(x lo hi:Nat) (R:ForInStep (Option (Option Nat) × Nat × Nat)->C9->Prop),hi<=n->(lo ≥ hi->R (.done (none,lo,hi)) st)->(lo<hi->P (lo+(hi - lo) / 2)=true->R (.yield (none,lo+(hi - lo) / 2+1,hi)) st)->(lo<hi->P (lo+(hi - lo) / 2)=false->R (.yield (none,lo,lo+(hi - lo) / 2)) st)->wpS (n0 prog w) A E s (f x (none,lo,hi)) R st)
  (hP:∀i j,i<=j->j<n->P j=true->P i=true) (h1:lo<=hi) (h2:hi<=n) (h3:∀i,i<lo->P i=true) (h4:∀i,hi<=i->i<n->P i=false)
  (h:∀k,k<=n->(∀i,i<k->P i=true)->(∀i,k<=i->i<n->P i=false)->Q (none,k,k) st):
  wpS (n0 prog w) A E s (forIn [0:n] (none,lo,hi) f) Q st:=by
 refine C8 (I:=fun x c st'=>st'=st/\∃lo hi,c=(none,lo,hi)/\lo<=hi/\hi<=n/\hi - lo<=n - x/\(∀i,i<lo->P i=true)/\(∀i,hi<=i->i<n->P i=false)) ?_ ?_ ⟨rfl,lo,hi,rfl,h1,h2,by lia,h3,h4⟩
 ·rintro x c st' _ hx ⟨rfl,lo,hi,rfl,a1,a2,a3,a4,a5⟩
  refine hstep x lo hi _ a2 (fun hge=>?_) (fun hlt hp=>?_) (fun hlt hp=>?_)
  ·have e:lo=hi:=by lia
   subst e
   exact h lo a2 a4 a5
  ·refine ⟨rfl,_,_,rfl,by lia,a2,by lia,fun i hi'=>?_,a5⟩
   exact hP i _ (by lia) (by lia) hp
  ·refine ⟨rfl,_,_,rfl,by lia,by lia,by lia,a4,fun i hi' hin=>?_⟩
   cases hpi:P i with
   | false=>rfl
   | true=>rw[hP _ i hi' hin hpi] at hp;cases hp
 ·rintro c st' ⟨rfl,lo,hi,rfl,a1,a2,a3,a4,a5⟩
  have e:lo=hi:=by lia
  subst e
  exact h lo a2 a4 a5
theorem js {left:Bool}{key:i9}{b n hint:Nat}{Q:Option Nat->C9->Prop}{xs:Nat->i9} (hA:sS prog w A s rk M κ) (hk:kindOf st=κ) (mk:M key) (hh:hint<n) (hx:∀i,i<n->arr[b+i]?=some (xs i)/\M (xs i))
  (hP:∀i j,i<=j->j<n->bq rk left key (xs j)=true->bq rk left key (xs i)=true)
  (h:∀k,k<=n->(∀i,i<k->bq rk left key (xs i)=true)->(∀i,k<=i->i<n->bq rk left key (xs i)=false)->Q (some k) st):wpS (n0 prog w) A E s (kj left key arr b n hint) Q st:=by
 have step:∀(i:Nat) (Q':Option Bool->C9->Prop),i<n->Q' (some (bq rk left key (xs i))) st->wpS (n0 prog w) A E s (do let x <- elem' arr (b+i);if left=true then lt' x key else do let r <- lt' key x;pure (xK (fun x=>!x) r)) Q' st:=fun i Q' hi q=>Ec hA hk (hx i hi).1 (hx i hi).2 mk q
 refine d7 (step hint _ hh ?_)
 have BS:∀(x lo hi:Nat) (R:ForInStep (Option (Option Nat) × Nat × Nat)->C9->Prop),hi<=n->(lo ≥ hi->R (.done (none,lo,hi)) st)->(lo<hi->bq rk left key (xs (lo+(hi - lo) / 2))=true->R (.yield (none,lo+(hi - lo) / 2+1,hi)) st)->(lo<hi->bq rk left key (xs (lo+(hi - lo) / 2))=false->R (.yield (none,lo,lo+(hi - lo) / 2)) st) ->
   wpS (n0 prog w) A E s (if lo ≥ hi then pure (yf (none,lo,hi)) else do
    let r <- (do let x <- elem' arr (b+(lo+(hi - lo) / 2));if left=true then lt' x key else do let r <- lt' key x;pure (xK (fun x=>!x) r))
    match r with
    | some more=>if more=true then pure (Z2 (none,lo+(hi - lo) / 2+1,hi)) else pure (Z2 (none,lo,lo+(hi - lo) / 2))
    | x=>pure (yf (some none,lo,hi))) R st:=fun x lo hi R hn r1 r2 r3=>by
  by_cases hge:lo ≥ hi
  ·rw[if_pos hge];exact i7 (r1 hge)
  ·rw[if_neg hge]
   refine d7 (step _ _ (by lia) ?_)
   cases hb:bq rk left key (xs (lo+(hi - lo) / 2)) with
   | true=>exact i7 (r2 (by lia) hb)
   | false=>exact i7 (r3 (by lia) hb)
 cases hr:bq rk left key (xs hint) with
 | true =>
  dsimp only
  rw[if_pos rfl]
  refine d7 (Q1 (C8 (I:=fun x c st'=>st'=st/\∃la of,c=(none,la,of)/\la<of/\x<of/\hint+la<n/\bq rk left key (xs (hint+la))=true) (Q:=fun c st'=>st'=st/\∃la of,c=(none,la,of)/\la<of/\hint+la<n/\bq rk left key (xs (hint+la))=true/\(of ≥ n - hint ∨ (hint+of<n/\bq rk left key (xs (hint+of))=false))) ?_ ?_ ⟨rfl,0,1,rfl,by decide,by decide,by simpa using hh,hr⟩) ?_)
  ·rintro x c st' _ hxn ⟨rfl,la,of,rfl,a1,a2,a3,a4⟩
   dsimp only
   by_cases hge:of ≥ n - hint
   ·rw[if_pos hge];exact i7 ⟨rfl,la,of,rfl,a1,a3,a4,.inl hge⟩
   ·rw[if_neg hge]
    refine d7 (step _ _ (by lia) ?_)
    cases hb:bq rk left key (xs (hint+of)) with
    | true =>
     dsimp only
     rw[if_neg (by decide)]
     exact i7 ⟨rfl,of,2*of+1,rfl,by lia,by lia,by lia,hb⟩
    | false =>
     dsimp only
     rw[if_pos (by decide)]
     exact i7 ⟨rfl,la,of,rfl,a1,a3,a4,.inr ⟨by lia,hb⟩⟩
  ·rintro c st' ⟨rfl,la,of,rfl,a1,a2,a3,a4⟩
   exact ⟨rfl,la,of,rfl,a1,a3,a4,.inl (by lia)⟩
  ·rintro c st' ⟨rfl,la,of,rfl,a1,a3,a4,a5⟩
   dsimp only
   refine d7 (sJ (P:=fun i=>bq rk left key (xs i)) (fun x lo hi R a b c d=>BS x lo hi R a b c d) hP ?_ ?_ (fun i hi=>?_) (fun i hi hin=>?_) fun k k1 k2 k3=>i7 (h k k1 k2 k3))
   ·rcases a5 with z|z <;> lia
   ·lia
   ·exact hP i _ (by lia) a3 a4
   ·rcases a5 with z|⟨z1,z2⟩
    ·lia
    ·cases hb:bq rk left key (xs i) with
     | false=>rfl
     | true=>rw[hP _ i (by lia) hin hb] at z2;cases z2
 | false =>
  dsimp only
  rw[if_neg (by decide)]
  refine d7 (Q1 (C8 (I:=fun x c st'=>st'=st/\∃la of,c=(none,la,of)/\la<of/\x<of/\la<=hint/\bq rk left key (xs (hint - la))=false) (Q:=fun c st'=>st'=st/\∃la of,c=(none,la,of)/\la<of/\la<=hint/\bq rk left key (xs (hint - la))=false/\(of ≥ hint+1 ∨ (of<=hint/\bq rk left key (xs (hint - of))=true))) ?_ ?_ ⟨rfl,0,1,rfl,by decide,by decide,by lia,hr⟩) ?_)
  ·rintro x c st' _ hxn ⟨rfl,la,of,rfl,a1,a2,a3,a4⟩
   dsimp only
   by_cases hge:of ≥ hint+1
   ·rw[if_pos hge];exact i7 ⟨rfl,la,of,rfl,a1,a3,a4,.inl hge⟩
   ·rw[if_neg hge]
    refine d7 (step _ _ (by lia) ?_)
    cases hb:bq rk left key (xs (hint - of)) with
    | true =>
     dsimp only
     rw[if_pos rfl]
     exact i7 ⟨rfl,la,of,rfl,a1,a3,a4,.inr ⟨by lia,hb⟩⟩
    | false =>
     dsimp only
     rw[if_neg (by decide)]
     exact i7 ⟨rfl,of,2*of+1,rfl,by lia,by lia,by lia,hb⟩
  ·rintro c st' ⟨rfl,la,of,rfl,a1,a2,a3,a4⟩
   exact ⟨rfl,la,of,rfl,a1,a3,a4,.inl (by lia)⟩
  ·rintro c st' ⟨rfl,la,of,rfl,a1,a3,a4,a5⟩
   dsimp only
   refine d7 (sJ (P:=fun i=>bq rk left key (xs i)) (fun x lo hi R a b c d=>BS x lo hi R a b c d) hP ?_ ?_ (fun i hi=>?_) (fun i hi hin=>?_) fun k k1 k2 k3=>i7 (h k k1 k2 k3))
   ·rcases a5 with z|z <;> lia
   ·lia
   ·rcases a5 with z|⟨z1,z2⟩
    ·lia
    ·exact hP i _ (by lia) (by lia) z2
   ·cases hb:bq rk left key (xs i) with
    | false=>rfl
    | true=>rw[hP _ i (by lia) hin hb] at a4;cases a4
end
noncomputable def zr:Array i9->Array i9->StateT C9 Sem (Array i9):=sortPriv% PySem.Builtin.mergeLo
noncomputable def zu:Array i9->Array i9->StateT C9 Sem (Array i9):=sortPriv% PySem.Builtin.mergeHi
noncomputable def Up (rk:i9->Int) (l:List i9):Prop:=l.Pairwise fun x y=>rk x<=rk y
variable {i j:Nat}
theorem Up.le {rk:i9->Int}{l:List i9} (h:Up rk l) {x y:i9} (hx:l[i]?=some x) (hy:l[j]?=some y) (hij:i<=j):rk x<=rk y:=by
 rcases Nat.lt_or_eq_of_le hij with z|z
 ·have h1:=(List.getElem?_eq_some_iff.mp hx)
  have h2:=(List.getElem?_eq_some_iff.mp hy)
  have:=List.pairwise_iff_getElem.mp h i j h1.1 h2.1 z
  rw[h1.2,h2.2] at this
  exact this
 ·subst z
  rw[hx] at hy
  cases hy
  exact aL _
theorem Up.app {rk:i9->Int}{l m:List i9} (h:Up rk l) (k:Up rk m) (c:∀x∈l,∀y∈m,rk x<=rk y):Up rk (l++m):=List.pairwise_append.mpr ⟨h,k,c⟩
theorem Up.drop {rk:i9->Int}{l:List i9} (h:Up rk l) (i:Nat):Up rk (l.drop i):=lY (List.drop_sublist i l) h
theorem Up.take {rk:i9->Int}{l:List i9} (h:Up rk l) (i:Nat):Up rk (l.take i):=lY (AE i l) h
structure Mg (rk:i9->Int) (la lb O:List i9) (ia ib:Nat):Prop where
 perm:O.Perm (la.take ia++lb.take ib)
 up:Up rk O
 low:∀x∈O,∀y∈la.drop ia++lb.drop ib,rk x<=rk y
variable {la lb O:List i9}{ia ib:Nat}
theorem Mg.blkA {rk:i9->Int}(h:Mg rk la lb O ia ib) (ua:Up rk la) (k:Nat) (c:∀x∈(la.drop ia).take k,∀y∈lb.drop ib,rk x<=rk y):Mg rk la lb (O++(la.drop ia).take k) (ia+k) ib:=by
 refine ⟨?_,h.up.app ((ua.drop ia).take k) fun x hx y hy=>h.low x hx y (E9 _ (v7 hy)),fun x hx y hy=>?_⟩
 ·have e:la.take (ia+k)=la.take ia++(la.drop ia).take k:=List.take_add
  rw[e]
  refine (h.perm.append_right _).trans ?_
  rw[S3,S3]
  exact (X6).append_left _
 ·have hd:la.drop (ia+k)=(la.drop ia).drop k:=by rw[gH]
  rw[hd] at hy
  rcases List.mem_append.mp hx with hx|hx
  ·rcases List.mem_append.mp hy with hy|hy
   ·exact h.low x hx y (E9 _ (K8 hy))
   ·exact h.low x hx y (r0 _ hy)
  ·rcases List.mem_append.mp hy with hy|hy
   ·have:=ua.drop ia
    rw[<- y7 k (la.drop ia)] at this
    exact (List.pairwise_append.mp this).2.2 x hx y hy
   ·exact c x hx y hy
theorem Mg.swap {rk:i9->Int}(h:Mg rk la lb O ia ib):Mg rk lb la O ib ia :=
 ⟨h.perm.trans X6,h.up,fun x hx y hy=>h.low x hx y (by rcases List.mem_append.mp hy with z|z <;> simp[z])⟩
theorem Mg.blkB {rk:i9->Int}(h:Mg rk la lb O ia ib) (ub:Up rk lb) (k:Nat) (c:∀y∈(lb.drop ib).take k,∀x∈la.drop ia,rk y<=rk x):Mg rk la lb (O++(lb.drop ib).take k) ia (ib+k):=
 (h.swap.blkA ub k c).swap
theorem Mg.fin {rk:i9->Int}(h:Mg rk la lb O ia ib) (ua:Up rk la) (ub:Up rk lb) (c:∀x∈la.drop ia,∀y∈lb.drop ib,rk x<=rk y):(O++la.drop ia++lb.drop ib).Perm (la++lb)/\Up rk (O++la.drop ia++lb.drop ib):=by
 have h1:=h.blkA ua (la.drop ia).length (fun x hx=>c x (v7 hx))
 rw[u5] at h1
 have h2:=h1.blkB ub (lb.drop ib).length (fun y hy x hx=>by
  rw[L8 (by rw[A6];lia)] at hx
  cases hx)
 rw[u5] at h2
 refine ⟨h2.perm.trans ?_,h2.up⟩
 rw[C1 (by rw[A6];lia),C1 (by rw[A6];lia)]
theorem Mg.fin' {rk:i9->Int}(h:Mg rk la lb O ia ib) (ua:Up rk la) (ub:Up rk lb) (c:∀y∈lb.drop ib,∀x∈la.drop ia,rk y<=rk x):(O++lb.drop ib++la.drop ia).Perm (la++lb)/\Up rk (O++lb.drop ib++la.drop ia):=by
 obtain ⟨p,u⟩:=h.swap.fin ub ua c
 exact ⟨p.trans X6,u⟩
set_option maxHeartbeats 4000000
noncomputable def Gl (st st':C9):Prop:=kindOf st'=kindOf st/\W0 st'=W0 st/\T4 st'=T4 st/\Y3 st'=Y3 st
theorem Gl.refl (st:C9):Gl st st:=⟨rfl,rfl,rfl,rfl⟩
noncomputable def Fn (rk:i9->Int) (a b r:Array i9):Prop:=r.toList.Perm (a.toList++b.toList)/\Up rk r.toList
noncomputable abbrev gM (rk:i9->Int) (a b out:Array i9) (ia ib:Nat):Prop:=Mg rk a.toList b.toList out.toList ia ib
section
variable {rk:i9->Int}{a b out:Array i9}{ia ib:Nat}
theorem fh (a:Array i9) (i j:Nat):(a.extract i j).toList=(a.toList.drop i).take (j - i):=by simp[Array.toList_extract,List.extract]
variable {i:Nat}{x:i9}
theorem I0 (h:a[i]?=some x):a.toList[i]?=some x:=by simpa using h
theorem ph (h:a[i]?=some x):(a.toList.drop i).take 1=[x]:=by
 have h1:=List.getElem?_eq_some_iff.mp (I0 h)
 rw[List.drop_eq_getElem_cons h1.1,h1.2];rfl
theorem gM.pushA (h:gM rk a b out ia ib) (ua:Up rk a.toList) (hx:a[ia]?=some x) (c:∀y∈b.toList.drop ib,rk x<=rk y):gM rk a b (out.push x) (ia+1) ib:=by
 have:=Mg.blkA h ua 1 (fun z hz y hy=>by rw[ph hx] at hz;rw[List.mem_singleton.mp hz];exact c y hy)
 rw[ph hx] at this
 show Mg rk _ _ (out.push x).toList _ _
 rw[dz];exact this
theorem gM.pushB (h:gM rk a b out ia ib) (ub:Up rk b.toList) (hx:b[ib]?=some x) (c:∀y∈a.toList.drop ia,rk x<=rk y):gM rk a b (out.push x) ia (ib+1):=by
 have:=Mg.blkB h ub 1 (fun z hz y hy=>by rw[ph hx] at hz;rw[List.mem_singleton.mp hz];exact c y hy)
 rw[ph hx] at this
 show Mg rk _ _ (out.push x).toList _ _
 rw[dz];exact this
theorem gM.extA (h:gM rk a b out ia ib) (ua:Up rk a.toList) (k:Nat) (c:∀x∈(a.toList.drop ia).take k,∀y∈b.toList.drop ib,rk x<=rk y):gM rk a b (out++a.extract ia (ia+k)) (ia+k) ib:=by
 show Mg rk _ _ (out++a.extract ia (ia+k)).toList _ _
 rw[C7,fh,show ia+k - ia=k by lia]
 exact Mg.blkA h ua k c
theorem gM.extB (h:gM rk a b out ia ib) (ub:Up rk b.toList) (k:Nat) (c:∀x∈(b.toList.drop ib).take k,∀y∈a.toList.drop ia,rk x<=rk y):gM rk a b (out++b.extract ib (ib+k)) ia (ib+k):=by
 show Mg rk _ _ (out++b.extract ib (ib+k)).toList _ _
 rw[C7,fh,show ib+k - ib=k by lia]
 exact Mg.blkB h ub k c
theorem kn (a:Array i9) (i:Nat):(a.extract i).toList=a.toList.drop i:=by
 rw[fh,C1 (by rw[A6,A8];lia)]
theorem gM.done (h:gM rk a b out ia ib) (ua:Up rk a.toList) (ub:Up rk b.toList) (c:∀x∈a.toList.drop ia,∀y∈b.toList.drop ib,rk x<=rk y):Fn rk a b (out++a.extract ia++b.extract ib):=by
 unfold Fn
 rw[C7,C7,kn,kn]
 exact Mg.fin h ua ub c
theorem gM.last (h:gM rk a b out ia ib) (ua:Up rk a.toList) (ub:Up rk b.toList) (c:∀y∈b.toList.drop ib,∀x∈a.toList.drop ia,rk y<=rk x):Fn rk a b (out++b.extract ib++a.extract ia):=by
 unfold Fn
 rw[C7,C7,kn,kn]
 exact Mg.fin' h ua ub c
theorem vR {n:Nat} (h:a.size<=n) {P:i9->Prop}:∀x∈a.toList.drop n,P x:=fun x hx=>by
 rw[L8 (by rw[A8];exact h)] at hx
 cases hx
theorem cM {u:Up rk a.toList}(hx:a[i]?=some x):∀y∈a.toList.drop i,rk x<=rk y:=fun y hy=>by
 obtain ⟨j,hj⟩:=List.mem_iff_getElem?.mp hy
 rw[G6] at hj
 exact u.le (I0 hx) hj (by lia)
theorem ze (hi:i+1=a.size) (hx:a[i]?=some x):∀y∈a.toList.drop i,y=x:=fun y hy=>by
 obtain ⟨j,hj⟩:=List.mem_iff_getElem?.mp hy
 rw[G6] at hj
 have h1:=(List.getElem?_eq_some_iff.mp hj).1
 rw[A8] at h1
 have e:i+j=i:=by lia
 rw[e,I0 hx] at hj
 cases hj
 rfl
theorem U0 (h:i<a.size):∃x,a[i]?=some x/\x∈a.toList:=⟨a[i],B9 h,Array.getElem_mem_toList h⟩
theorem kL {k:Nat}(h:x∈(a.toList.drop i).take k):∃j,j<k/\a[i+j]?=some x:=by
 obtain ⟨j,hj⟩:=List.mem_iff_getElem?.mp h
 rw[K6] at hj
 split at hj
 ·rename_i hjk
  rw[G6] at hj
  exact ⟨j,hjk,by simpa using hj⟩
 ·cases hj
end
section
variable {prog:f6}{w:j6}{A:r6}{E:b8->b9->Prop}{s:b9}{rk:i9->Int}{M:i9->Prop}{κ:aO}
theorem gal {left:Bool}{key:i9}{a:Array i9}{i:Nat}{st:C9}{Q:Option Nat->C9->Prop} (hA:sS prog w A s rk M κ) (hk:kindOf st=κ) (mk:M key) (ma:∀x∈a.toList,M x) (u:Up rk a.toList) (hi:i<a.size)
  (h:∀k,i+k<=a.size->(∀x∈(a.toList.drop i).take k,bq rk left key x=true)->(∀x,a[i+k]?=some x->bq rk left key x=false)->Q (some k) st):wpS (n0 prog w) A E s (kj left key a i (a.size - i) 0) Q st:=by
 have hg:∀j,j<a.size - i->a[i+j]?=some (a.getD (i+j) key):=fun j hj=>by
  rw[B9 (by lia)]
  simp[yk,show i+j<a.size by lia]
 refine js (xs:=fun j=>a.getD (i+j) key) hA hk mk (by lia) (fun j hj=>⟨hg j hj,?_⟩) (fun j1 j2 h12 h2 hb=>?_) (fun k h1 h2 h3=>h k (by lia) (fun x hx=>?_) (fun x hx=>?_))
 ·have:=hg j hj
  exact ma _ (t7 (I0 this))
 ·have hle:=u.le (I0 (hg j1 (by lia))) (I0 (hg j2 h2)) (by lia)
  unfold bq at hb ⊢
  cases left with
  | true =>
   rw[if_pos rfl] at hb ⊢
   have:=of_decide_eq_true hb
   exact decide_eq_true (by lia)
  | false =>
   rw[if_neg (by decide)] at hb ⊢
   rw[S4,decide_eq_false_iff_not] at hb ⊢
   lia
 ·obtain ⟨j,hj,hx'⟩:=kL hx
  have:=h2 j hj
  have e:=hg j (by lia)
  rw[hx'] at e
  injection e with e
  show bq rk left key x=true
  rw[e];exact this
 ·have hlt:=(Array.getElem?_eq_some_iff.mp hx).1
  have:=h3 k (d9 _) (by lia)
  have e:=hg k (by lia)
  rw[hx] at e
  injection e with e
  show bq rk left key x=false
  rw[e];exact this
end
section
variable {prog:f6}{w:j6}{A:r6}{E:b8->b9->Prop}{s:b9}{rk:i9->Int}{M:i9->Prop}{κ:aO}
theorem EH {α β δ:Type}{C:α->β->Prop}{N:lW}{f:α->β->StateT C9 Sem δ}{Q:δ->C9->Prop}{st:C9}{G:Prop} (h:(∀x y,C x y->wpS N A E s (f x y) Q st)->G) (t:∀x y,C x y->wpS N A E s (f x y) Q st):G:=h t
theorem uC {a b:Array i9}{st:C9}{Q:Array i9->C9->Prop} (hA:sS prog w A s rk M κ) (hk:kindOf st=κ) (ma:∀x∈a.toList,M x) (mb:∀x∈b.toList,M x) (ua:Up rk a.toList) (ub:Up rk b.toList) (sa:0<a.size) (sb:0<b.size)
  (h0:∀x y,a[0]?=some x->b[0]?=some y->rk y<=rk x) (hl:∀x,a[a.size - 1]?=some x->∀y∈b.toList,rk y<=rk x)
  (h:∀r st',Fn rk a b r->Gl st st'->Q r st'):wpS (n0 prog w) A E s (zr a b) Q st:=by
 obtain ⟨b0,hb0,_⟩:=U0 (a:=b) sb
 obtain ⟨a0,ha0,_⟩:=U0 (a:=a) sa
 obtain ⟨al,hal,_⟩:=U0 (a:=a) (i:=a.size - 1) (by lia)
 have hlast:=hl al hal
 have LAST:∀{out:Array i9}{ia ib:Nat},gM rk a b out ia ib->ia+1=a.size->Fn rk a b (out++b.extract ib++a.extract ia):=fun {out ia ib} hm e=>by
  refine hm.last ua ub fun y hy x hx=>?_
  have:a[ia]?=some al:=by rw[<- hal];congr 1;lia
  rw[ze e this x hx]
  exact hlast y (K8 hy)
 have ENDB:∀{out:Array i9}{ia ib:Nat},gM rk a b out ia ib->ib=b.size->Fn rk a b (out++a.extract ia++b.extract ib):=fun {out ia ib} hm e=>hm.done ua ub fun x _=>vR (by lia)
 have ENDA:∀{out:Array i9}{ia ib:Nat},gM rk a b out ia ib->ia=a.size->Fn rk a b (out++a.extract ia++b.extract ib):=fun {out ia ib} hm e=>hm.done ua ub (vR (by lia))
 refine d7 (cO (L1 ⟨rfl,?_⟩))
 refine d7 (F7 hb0 ?_)
 have m0:gM rk a b #[b0] 0 1:=by
  have z:gM rk a b #[] 0 0:=⟨by simp,U3,fun x hx=>by simp at hx⟩
  exact z.pushB ub hb0 fun y hy=>B7 (h0 a0 b0 ha0 hb0) (cM (u:=ua) ha0 y hy)
 dsimp only
 by_cases e1:(1 == b.size)=true
 ·rw[if_pos e1]
  exact i7 (h _ _ (ENDB m0 (by simpa using e1)) (Gl.refl st))
 rw[if_neg e1]
 by_cases e2:(0+1 == a.size)=true
 ·rw[if_pos e2]
  exact i7 (h _ _ (LAST m0 (by simpa using e2)) (Gl.refl st))
 rw[if_neg e2]
 have sb2:1<b.size:=by
  have:1≠b.size:=by simpa using e1
  lia
 have sa2:0+1<a.size:=by
  have:0+1≠a.size:=by simpa using e2
  lia
 refine d7 (S2 ?_)
 refine d7 (Q1 (C8 (I:=fun x c st'=>Gl st st'/\∃out ia ib mg,c=(none,out,ia,ib,mg)/\gM rk a b out ia ib/\ia+1<a.size/\ib<b.size/\1+x<=ia+ib)
  (Q:=fun c st'=>Gl st st'/\∃r,c.1=some r/\Fn rk a b r) ?_ ?_ ⟨Gl.refl st,_,_,_,_,rfl,m0,sa2,sb2,by lia⟩) ?_)
 rotate_left
 ·rintro c st' ⟨_,out,ia,ib,mg,rfl,_,z1,z2,z3⟩
  lia
 ·rintro ⟨c1,c2⟩ st' ⟨gl,r,hr,hf⟩
  dsimp only at hr
  subst hr
  exact i7 (h r st' hf gl)
 rintro x c st1 _ hx ⟨gl,out,ia,ib,mg,rfl,hm,za,zb,zp⟩
 have hk1:kindOf st1=κ:=gl.1.trans hk
 dsimp only
 refine d7 (Q1 (C8 (I:=fun y c st'=>st'=st1/\∃out ia ib ac bc,c=(none,out,ia,ib,ac,bc)/\gM rk a b out ia ib/\ia+1<a.size/\ib<b.size/\1+x+y<=ia+ib)
  (Q:=fun c st'=>st'=st1/\((∃r,c.1=some r/\Fn rk a b r) ∨ ∃out ia ib ac bc,c=(none,out,ia,ib,ac,bc)/\gM rk a b out ia ib/\ia+1<a.size/\ib<b.size/\1+x+1<=ia+ib)) ?_ ?_ ⟨rfl,out,ia,ib,0,0,rfl,hm,za,zb,by lia⟩) ?_)
 ·rintro y c st' _ hy ⟨rfl,out,ia,ib,ac,bc,rfl,hm,za,zb,zp⟩
  obtain ⟨bx,hbx,mbx⟩:=U0 (a:=b) zb
  obtain ⟨ax,hax,max⟩:=U0 (a:=a) (i:=ia) (by lia)
  dsimp only
  refine d7 (F7 hbx (d7 (F7 hax (d7 (kH hA hk1 (mb bx mbx) (ma ax max) ?_)))))
  by_cases hlt:rk bx<rk ax
  ·rw[decide_eq_true hlt]
   dsimp only
   rw[if_pos rfl]
   refine d7 (F7 hbx ?_)
   have hm':=hm.pushB ub hbx fun y hy=>B7 (S9 hlt) (cM (u:=ua) hax y hy)
   by_cases e3:(ib+1 == b.size)=true
   ·rw[if_pos e3]
    exact i7 ⟨rfl,.inl ⟨_,rfl,ENDB hm' (by simpa using e3)⟩⟩
   rw[if_neg e3]
   have e3':ib+1≠b.size:=by simpa using e3
   split
   ·exact i7 ⟨rfl,.inr ⟨_,_,_,_,_,rfl,hm',za,by lia,by lia⟩⟩
   ·exact i7 ⟨rfl,_,_,_,_,_,rfl,hm',za,by lia,by lia⟩
  ·rw[decide_eq_false hlt]
   dsimp only
   rw[if_neg (by decide)]
   refine d7 (F7 hax ?_)
   have hm':=hm.pushA ua hax fun y hy=>B7 (Int.not_lt.mp hlt) (cM (u:=ub) hbx y hy)
   by_cases e3:(ia+1+1 == a.size)=true
   ·rw[if_pos e3]
    exact i7 ⟨rfl,.inl ⟨_,rfl,LAST hm' (by simpa using e3)⟩⟩
   rw[if_neg e3]
   have e3':ia+1+1≠a.size:=by simpa using e3
   split
   ·exact i7 ⟨rfl,.inr ⟨_,_,_,_,_,rfl,hm',by lia,zb,by lia⟩⟩
   ·exact i7 ⟨rfl,_,_,_,_,_,rfl,hm',by lia,zb,by lia⟩
 ·rintro c st' ⟨rfl,out,ia,ib,ac,bc,rfl,hm,z1,z2,z3⟩
  lia
 rintro ⟨c1,c2⟩ st' ⟨rfl,(⟨r,hr,hf⟩|⟨out,ia,ib,ac,bc,e,hm,za,zb,zp⟩)⟩
 ·dsimp only at hr
  subst hr
  exact i7 ⟨gl,r,rfl,hf⟩
 cases e
 dsimp only
 refine d7 (cO (L1 ⟨rfl,?_⟩))
 refine d7 (Q1 (C8 (I:=fun y c st'=>Gl st st'/\∃out ia ib mg ac bc,c=(none,out,ia,ib,mg,ac,bc)/\gM rk a b out ia ib/\ia+1<a.size/\ib<b.size/\1+x+1+y<=ia+ib)
  (Q:=fun c st'=>Gl st st'/\((∃r,c.1=some r/\Fn rk a b r) ∨ ∃out ia ib mg ac bc,c=(none,out,ia,ib,mg,ac,bc)/\gM rk a b out ia ib/\ia+1<a.size/\ib<b.size/\1+x+1<=ia+ib)) ?_ ?_ ⟨gl,out,ia,ib,_,ac,bc,rfl,hm,za,zb,by lia⟩) ?_)
 ·rintro y c st2 _ hy ⟨gl2,out,ia,ib,mg,ac,bc,rfl,hm,za,zb,zp⟩
  obtain ⟨bx,hbx,mbx⟩:=U0 (a:=b) zb
  dsimp only
  apply EH (C:=fun m n:Nat=>True)
  ·intro T
   by_cases hmg:mg<=1
   ·rw[if_neg (by lia)]
    obtain ⟨q,_⟩:∃q:Nat,q=0:=⟨0,rfl⟩
    generalize mg=m
    exact T m q trivial
   ·rw[if_pos (by lia)]
    exact T _ 0 trivial
  intro mg _ _
  refine d7 (D3 ?_)
  refine d7 (F7 hbx ?_)
  refine d7 (gal hA (gl2.1.trans hk) (mb bx mbx) ma ua (by lia) fun k hk1' hk2 hk3=>?_)
  dsimp only
  have hbk:∀x∈(a.toList.drop ia).take k,rk x<=rk bx:=fun x hx=>by
   have:=hk2 x hx
   unfold bq at this
   rw[if_neg (by decide),S4,decide_eq_false_iff_not] at this
   lia
  have hkk:∀ax,a[ia+k]?=some ax->rk bx<rk ax:=fun ax hax=>by
   have:=hk3 ax (by simpa using hax)
   unfold bq at this
   rw[if_neg (by decide),jE,decide_eq_true_iff] at this
   exact this
  have hm1:=hm.extA ua k fun x hx y hy=>B7 (hbk x hx) (cM (u:=ub) hbx y hy)
  have hk00:k=0->∀ax,a[ia]?=some ax->rk bx<rk ax:=fun e=>by subst e;exact hkk
  apply EH (C:=fun (o:Array i9) i=>gM rk a b o i ib/\i+1<a.size/\1+x+1+y<=i+ib/\∀ax,a[i]?=some ax->rk bx<rk ax)
  ·intro T
   by_cases hk0:k=0
   ·rw[if_neg (by lia)]
    have hc:gM rk a b out ia ib/\ia+1<a.size/\1+x+1+y<=ia+ib/\∀ax,a[ia]?=some ax->rk bx<rk ax:=⟨hm,za,zp,hk00 hk0⟩
    revert hc
    generalize ia=i
    generalize out=o
    intro hc
    exact T o i hc
   rw[if_pos (by lia)]
   by_cases e4:(ia+k+1 == a.size)=true
   ·rw[if_pos e4]
    exact i7 ⟨⟨gl2.1,gl2.2.1,gl2.2.2.1,gl2.2.2.2⟩,.inl ⟨_,rfl,LAST hm1 (by simpa using e4)⟩⟩
   rw[if_neg e4]
   by_cases e5:(ia+k == a.size)=true
   ·rw[if_pos e5]
    exact i7 ⟨⟨gl2.1,gl2.2.1,gl2.2.2.1,gl2.2.2.2⟩,.inl ⟨_,rfl,ENDA hm1 (by simpa using e5)⟩⟩
   rw[if_neg e5]
   have e4':ia+k+1≠a.size:=by simpa using e4
   have e5':ia+k≠a.size:=by simpa using e5
   exact T _ _ ⟨hm1,by lia,by lia,hkk⟩
  intro o i ⟨hm,za,zp,hlt⟩
  obtain ⟨ax,hax,max⟩:=U0 (a:=a) (i:=i) (by lia)
  have hba:=hlt ax hax
  refine d7 (F7 hbx ?_)
  have hm2:=hm.pushB ub hbx fun y hy=>B7 (S9 hba) (cM (u:=ua) hax y hy)
  by_cases e6:(ib+1 == b.size)=true
  ·rw[if_pos e6]
   exact i7 ⟨⟨gl2.1,gl2.2.1,gl2.2.2.1,gl2.2.2.2⟩,.inl ⟨_,rfl,ENDB hm2 (by simpa using e6)⟩⟩
  rw[if_neg e6]
  have e6':ib+1≠b.size:=by simpa using e6
  generalize o.push bx=o2 at hm2 ⊢
  generalize hl:ib+1=l at hm2 e6' ⊢
  refine d7 (F7 hax ?_)
  refine d7 (gal hA (gl2.1.trans hk) (ma ax max) mb ub (i:=l) (by lia) fun j hj1 hj2 hj3=>?_)
  dsimp only
  have hbj:∀z∈(b.toList.drop l).take j,rk z<=rk ax:=fun z hz=>by
   have:=hj2 z hz
   unfold bq at this
   rw[if_pos rfl,decide_eq_true_iff] at this
   lia
  have hjj:∀z,b[l+j]?=some z->rk ax<=rk z:=fun z hz=>by
   have:=hj3 z (by simpa using hz)
   unfold bq at this
   rw[if_pos rfl,decide_eq_false_iff_not] at this
   lia
  have hm3:=hm2.extB ub j fun z hz y hy=>B7 (hbj z hz) (cM (u:=ua) hax y hy)
  have hj00:j=0->∀z,b[l]?=some z->rk ax<=rk z:=fun e=>by subst e;exact hjj
  apply EH (C:=fun (o:Array i9) n=>gM rk a b o i n/\n<b.size/\1+x+1+y<=i+n/\∀z,b[n]?=some z->rk ax<=rk z)
  ·intro T
   by_cases hj0:j=0
   ·rw[if_neg (by lia)]
    have hc:gM rk a b o2 i l/\l<b.size/\1+x+1+y<=i+l/\∀z,b[l]?=some z->rk ax<=rk z:=⟨hm2,by lia,by lia,hj00 hj0⟩
    revert hc
    generalize l=n
    generalize o2=o
    intro hc
    exact T o n hc
   rw[if_pos (by lia)]
   by_cases e7:(l+j == b.size)=true
   ·rw[if_pos e7]
    exact i7 ⟨⟨gl2.1,gl2.2.1,gl2.2.2.1,gl2.2.2.2⟩,.inl ⟨_,rfl,ENDB hm3 (by simpa using e7)⟩⟩
   rw[if_neg e7]
   have e7':l+j≠b.size:=by simpa using e7
   exact T _ _ ⟨hm3,by lia,by lia,hjj⟩
  intro o n ⟨hm,zn,zp,hle⟩
  refine d7 (F7 hax ?_)
  obtain ⟨bz,hbz,_⟩:=U0 (a:=b) (i:=n) zn
  have hm4:=hm.pushA ua hax fun y hy=>B7 (hle bz hbz) (cM (u:=ub) hbz y hy)
  by_cases e8:(i+1+1 == a.size)=true
  ·rw[if_pos e8]
   exact i7 ⟨⟨gl2.1,gl2.2.1,gl2.2.2.1,gl2.2.2.2⟩,.inl ⟨_,rfl,LAST hm4 (by simpa using e8)⟩⟩
  rw[if_neg e8]
  have e8':i+1+1≠a.size:=by simpa using e8
  split
  ·exact i7 ⟨⟨gl2.1,gl2.2.1,gl2.2.2.1,gl2.2.2.2⟩,.inr ⟨_,_,_,_,_,_,rfl,hm4,by lia,by lia,by lia⟩⟩
  ·exact i7 ⟨⟨gl2.1,gl2.2.1,gl2.2.2.1,gl2.2.2.2⟩,_,_,_,_,_,_,rfl,hm4,by lia,by lia,by lia⟩
 ·rintro c st' ⟨_,out,ia,ib,mg,ac,bc,rfl,hm,z1,z2,z3⟩
  lia
 ·rintro ⟨c1,c2⟩ st2 ⟨gl2,(⟨r,hr,hf⟩|⟨out,ia,ib,mg,ac,bc,e,hm,za,zb,zp⟩)⟩
  ·dsimp only at hr
   subst hr
   exact i7 ⟨gl2,r,rfl,hf⟩
  ·cases e
   dsimp only
   refine d7 (D3 ?_)
   exact i7 ⟨⟨gl2.1,gl2.2.1,gl2.2.2.1,gl2.2.2.2⟩,_,_,_,_,rfl,hm,za,zb,by lia⟩
end
structure Mh (rk:i9->Int) (la lb O:List i9) (na nb:Nat):Prop where
 perm:O.Perm (la.drop na++lb.drop nb)
 up:Up rk O
 hi:∀x∈la.take na++lb.take nb,∀y∈O,rk x<=rk y
variable {na nb:Nat}
theorem Mh.swap {rk:i9->Int}(h:Mh rk la lb O na nb):Mh rk lb la O nb na :=
 ⟨h.perm.trans X6,h.up,fun x hx y hy=>h.hi x (by rcases List.mem_append.mp hx with z|z <;> simp[z]) y hy⟩
theorem Mh.blkA {rk:i9->Int}(h:Mh rk la lb O na nb) (ua:Up rk la) (k:Nat) (hk:k<=na) (c:∀x∈(la.take na).drop k,∀y∈lb.take nb,rk y<=rk x):Mh rk la lb ((la.take na).drop k++O) k nb:=by
 have ht:la.take k=(la.take na).take k:=by rw[qB,nW hk]
 refine ⟨?_,((ua.take na).drop k).app h.up fun x hx y hy=>h.hi x (E9 _ (K8 hx)) y hy,fun x hx y hy=>?_⟩
 ·have e:la.drop k=(la.take na).drop k++la.drop na:=by
   have h1:la=la.take na++la.drop na:=(y7 na la).symm
   by_cases hn:na<=la.length
   ·conv=>lhs;rw[h1]
    rw[mn (by rw[m8];lia)]
   ·rw[C1 (by lia),L8 (show la.length<=na by lia),W5]
  rw[e,S3]
  exact h.perm.append_left _
 ·rcases List.mem_append.mp hy with hy|hy
  ·rcases List.mem_append.mp hx with hx|hx
   ·rw[ht] at hx
    have:=ua.take na
    rw[<- y7 k (la.take na)] at this
    exact (List.pairwise_append.mp this).2.2 x hx y hy
   ·exact c y hy x hx
  ·rcases List.mem_append.mp hx with hx|hx
   ·rw[ht] at hx
    exact h.hi x (E9 _ (v7 hx)) y hy
   ·exact h.hi x (r0 _ hx) y hy
theorem Mh.blkB {rk:i9->Int}(h:Mh rk la lb O na nb) (ub:Up rk lb) (k:Nat) (hk:k<=nb) (c:∀y∈(lb.take nb).drop k,∀x∈la.take na,rk x<=rk y):Mh rk la lb ((lb.take nb).drop k++O) na k :=
 (h.swap.blkA ub k hk c).swap
theorem Mh.fin {rk:i9->Int}(h:Mh rk la lb O na nb) (ua:Up rk la) (ub:Up rk lb) (c:∀x∈la.take na,∀y∈lb.take nb,rk x<=rk y):(la.take na++lb.take nb++O).Perm (la++lb)/\Up rk (la.take na++lb.take nb++O):=by
 have h1:=h.blkB ub 0 (j5 _) (fun y hy x hx=>c x hx y (by simpa using hy))
 rw[L7] at h1
 have h2:=h1.blkA ua 0 (j5 _) (fun x _ y hy=>by simp at hy)
 rw[L7,<- S3] at h2
 exact ⟨h2.perm,h2.up⟩
theorem Mh.fin' {rk:i9->Int}(h:Mh rk la lb O na nb) (ua:Up rk la) (ub:Up rk lb) (c:∀y∈lb.take nb,∀x∈la.take na,rk y<=rk x):(lb.take nb++la.take na++O).Perm (la++lb)/\Up rk (lb.take nb++la.take na++O):=by
 obtain ⟨p,u⟩:=h.swap.fin ub ua c
 exact ⟨p.trans X6,u⟩
noncomputable abbrev gL (rk:i9->Int) (a b out:Array i9) (na nb:Nat):Prop:=Mh rk a.toList b.toList out.toList.reverse na nb
section
variable {rk:i9->Int}{a b out:Array i9}{na nb:Nat}
variable {i n:Nat}{x:i9}
theorem oi (hn:n=i+1) (h:a[i]?=some x):(a.toList.take n).drop i=[x]:=by
 subst hn
 have h1:=List.getElem?_eq_some_iff.mp (I0 h)
 have hl:=h1.1
 rw[t6,d0 h1.1,h1.2,mn (by rw[m8];lia),L8 (by rw[m8];lia)]
 rfl
theorem gL.pushA (h:gL rk a b out na nb) (ua:Up rk a.toList) (hi:na=i+1) (hx:a[i]?=some x) (c:∀y∈b.toList.take nb,rk y<=rk x):gL rk a b (out.push x) i nb:=by
 have:=Mh.blkA h ua i (by lia) (fun z hz y hy=>by rw[oi hi hx] at hz;rw[List.mem_singleton.mp hz];exact c y hy)
 rw[oi hi hx] at this
 show Mh rk _ _ (out.push x).toList.reverse _ _
 rw[dz,cE];exact this
theorem gL.pushB (h:gL rk a b out na nb) (ub:Up rk b.toList) (hi:nb=i+1) (hx:b[i]?=some x) (c:∀y∈a.toList.take na,rk y<=rk x):gL rk a b (out.push x) na i:=by
 have:=Mh.blkB h ub i (by lia) (fun z hz y hy=>by rw[oi hi hx] at hz;rw[List.mem_singleton.mp hz];exact c y hy)
 rw[oi hi hx] at this
 show Mh rk _ _ (out.push x).toList.reverse _ _
 rw[dz,cE];exact this
theorem km (a:Array i9) (k n:Nat):(a.extract k n).toList=(a.toList.take n).drop k:=by
 rw[fh,List.drop_take]
theorem gL.extA (h:gL rk a b out na nb) (ua:Up rk a.toList) (k:Nat) (hk:k<=na) (c:∀x∈(a.toList.take na).drop k,∀y∈b.toList.take nb,rk y<=rk x):gL rk a b (out++(a.extract k na).reverse) k nb:=by
 show Mh rk _ _ (out++(a.extract k na).reverse).toList.reverse _ _
 rw[C7,bQ,cE,xN,km]
 exact Mh.blkA h ua k hk c
theorem gL.extB (h:gL rk a b out na nb) (ub:Up rk b.toList) (k:Nat) (hk:k<=nb) (c:∀x∈(b.toList.take nb).drop k,∀y∈a.toList.take na,rk y<=rk x):gL rk a b (out++(b.extract k nb).reverse) na k:=by
 show Mh rk _ _ (out++(b.extract k nb).reverse).toList.reverse _ _
 rw[C7,bQ,cE,xN,km]
 exact Mh.blkB h ub k hk c
theorem kl (a:Array i9) (n:Nat):(a.extract 0 n).toList=a.toList.take n:=by rw[km,L7]
theorem gL.done (h:gL rk a b out na nb) (ua:Up rk a.toList) (ub:Up rk b.toList) (c:∀x∈a.toList.take na,∀y∈b.toList.take nb,rk x<=rk y):Fn rk a b (a.extract 0 na++b.extract 0 nb++out.reverse):=by
 unfold Fn
 rw[C7,C7,kl,kl,bQ]
 exact Mh.fin h ua ub c
theorem gL.first (h:gL rk a b out na nb) (ua:Up rk a.toList) (ub:Up rk b.toList) (c:∀y∈b.toList.take nb,∀x∈a.toList.take na,rk y<=rk x):Fn rk a b (b.extract 0 nb++a.extract 0 na++out.reverse):=by
 unfold Fn
 rw[C7,C7,kl,kl,bQ]
 exact Mh.fin' h ua ub c
theorem pQ {u:Up rk a.toList}(hn:n<=i+1) (hx:a[i]?=some x):∀y∈a.toList.take n,rk y<=rk x:=fun y hy=>by
 obtain ⟨j,hj⟩:=List.mem_iff_getElem?.mp hy
 rw[K6] at hj
 split at hj
 ·exact u.le hj (I0 hx) (by lia)
 ·cases hj
theorem xj (hn:n=1) (hx:a[0]?=some x):∀y∈a.toList.take n,y=x:=fun y hy=>by
 subst hn
 obtain ⟨j,hj⟩:=List.mem_iff_getElem?.mp hy
 rw[K6] at hj
 split at hj
 ·have:j=0:=by lia
  subst this
  rw[I0 hx] at hj
  cases hj
  rfl
 ·cases hj
end
section
variable {prog:f6}{w:j6}{A:r6}{E:b8->b9->Prop}{s:b9}{rk:i9->Int}{M:i9->Prop}{κ:aO}
theorem GF {left:Bool}{key:i9}{a:Array i9}{n:Nat}{st:C9}{Q:Option Nat->C9->Prop} (hA:sS prog w A s rk M κ) (hk:kindOf st=κ) (mk:M key) (ma:∀x∈a.toList,M x) (u:Up rk a.toList) (hn:0<n) (hs:n<=a.size)
  (h:∀k,k<=n->(∀x∈a.toList.take k,bq rk left key x=true)->(∀x∈(a.toList.take n).drop k,bq rk left key x=false)->Q (some k) st):wpS (n0 prog w) A E s (kj left key a 0 n (n - 1)) Q st:=by
 have hg:∀j,j<n->a[0+j]?=some (a.getD j key):=fun j hj=>by
  rw[S6,B9 (by lia)]
  simp[yk,show j<a.size by lia]
 have hg':∀j,j<n->a[j]?=some (a.getD j key):=fun j hj=>by have:=hg j hj;rw[S6] at this;exact this
 refine js (xs:=fun j=>a.getD j key) hA hk mk (by lia) (fun j hj=>⟨hg j hj,?_⟩) (fun j1 j2 h12 h2 hb=>?_) (fun k h1 h2 h3=>h k (by lia) (fun x hx=>?_) (fun x hx=>?_))
 ·exact ma _ (t7 (I0 (hg' j hj)))
 ·have hle:=u.le (I0 (hg' j1 (by lia))) (I0 (hg' j2 h2)) (by lia)
  unfold bq at hb ⊢
  cases left with
  | true =>
   rw[if_pos rfl] at hb ⊢
   have:=of_decide_eq_true hb
   exact decide_eq_true (by lia)
  | false =>
   rw[if_neg (by decide)] at hb ⊢
   rw[S4,decide_eq_false_iff_not] at hb ⊢
   lia
 ·obtain ⟨j,hj,hx'⟩:=kL (i:=0) (by simpa using hx)
  have:=h2 j hj
  have e:=hg j (by lia)
  rw[hx'] at e
  injection e with e
  show bq rk left key x=true
  rw[e];exact this
 ·obtain ⟨j,hj⟩:=List.mem_iff_getElem?.mp hx
  rw[G6,K6] at hj
  split at hj
  ·rename_i hlt
   have:=h3 (k+j) (by lia) hlt
   have e:=I0 (hg' (k+j) hlt)
   rw[hj] at e
   injection e with e
   show bq rk left key x=false
   rw[e];exact this
  ·cases hj
end
section
variable {prog:f6}{w:j6}{A:r6}{E:b8->b9->Prop}{s:b9}{rk:i9->Int}{M:i9->Prop}{κ:aO}
theorem uD {a b:Array i9}{st:C9}{Q:Array i9->C9->Prop} (hA:sS prog w A s rk M κ) (hk:kindOf st=κ) (ma:∀x∈a.toList,M x) (mb:∀x∈b.toList,M x) (ua:Up rk a.toList) (ub:Up rk b.toList) (sa:0<a.size) (sb:0<b.size)
  (h0:∀x y,a[0]?=some x->b[0]?=some y->rk y<=rk x) (hl:∀x,a[a.size - 1]?=some x->∀y∈b.toList,rk y<=rk x)
  (h:∀r st',Fn rk a b r->Gl st st'->Q r st'):wpS (n0 prog w) A E s (zu a b) Q st:=by
 obtain ⟨b0,hb0,_⟩:=U0 (a:=b) sb
 obtain ⟨a0,ha0,_⟩:=U0 (a:=a) sa
 obtain ⟨al,hal,_⟩:=U0 (a:=a) (i:=a.size - 1) (by lia)
 have hlast:=hl al hal
 have hfirst:∀x∈a.toList,rk b0<=rk x:=fun x hx=>B7 (h0 a0 b0 ha0 hb0) (cM (u:=ua) ha0 x (by simpa using hx))
 have FIRST:∀{out:Array i9}{na nb:Nat},gL rk a b out na nb->nb=1->Fn rk a b (b.extract 0 nb++a.extract 0 na++out.reverse):=fun {out na nb} hm e=>by
  refine hm.first ua ub fun y hy x hx=>?_
  rw[xj e hb0 y hy]
  exact hfirst x (v7 hx)
 have ENDA:∀{out:Array i9}{na nb:Nat},gL rk a b out na nb->na=0->Fn rk a b (a.extract 0 na++b.extract 0 nb++out.reverse):=fun {out na nb} hm e=>hm.done ua ub fun x hx=>by
  rw[e] at hx;simp at hx
 have ENDB:∀{out:Array i9}{na nb:Nat},gL rk a b out na nb->nb=0->Fn rk a b (a.extract 0 na++b.extract 0 nb++out.reverse):=fun {out na nb} hm e=>hm.done ua ub fun x _ y hy=>by
  rw[e] at hy;simp at hy
 refine d7 (cO (L1 ⟨rfl,?_⟩))
 refine d7 (F7 hal ?_)
 have m0:gL rk a b #[al] (a.size - 1) b.size:=by
  have z:gL rk a b #[] a.size b.size:=⟨by
   show ([]:List i9).Perm _
   rw[L8 (by simp),L8 (by simp)]
   exact X1 _,U3,fun x _ y hy=>by simp at hy⟩
  exact z.pushA ua (by lia) hal fun y hy=>hlast y (v7 hy)
 dsimp only
 by_cases e1:(a.size - 1 == 0)=true
 ·rw[if_pos e1]
  exact i7 (h _ _ (ENDA m0 (by simpa using e1)) (Gl.refl st))
 rw[if_neg e1]
 by_cases e2:(b.size == 1)=true
 ·rw[if_pos e2]
  exact i7 (h _ _ (FIRST m0 (by simpa using e2)) (Gl.refl st))
 rw[if_neg e2]
 have sa2:0<a.size - 1:=by
  have:¬ a.size - 1=0:=by simpa using e1
  lia
 have sb2:1<b.size:=by
  have:¬ b.size=1:=by simpa using e2
  lia
 refine d7 (S2 ?_)
 refine d7 (Q1 (C8 (I:=fun x c st'=>Gl st st'/\∃na nb out mg,c=(none,na,nb,out,mg)/\gL rk a b out na nb/\0<na/\1<nb/\na<=a.size/\nb<=b.size/\na+nb+1+x<=a.size+b.size)
  (Q:=fun c st'=>Gl st st'/\∃r,c.1=some r/\Fn rk a b r) ?_ ?_ ⟨Gl.refl st,_,_,_,_,rfl,m0,sa2,sb2,by lia,by lia,by lia⟩) ?_)
 rotate_left
 ·rintro c st' ⟨_,na,nb,out,mg,rfl,_,z1,z2,z4,z5,z3⟩
  lia
 ·rintro ⟨c1,c2⟩ st' ⟨gl,r,hr,hf⟩
  dsimp only at hr
  subst hr
  exact i7 (h r st' hf gl)
 rintro x c st1 _ hx ⟨gl,na,nb,out,mg,rfl,hm,za,zb,zas,zbs,zp⟩
 have hk1:kindOf st1=κ:=gl.1.trans hk
 dsimp only
 refine d7 (Q1 (C8 (I:=fun y c st'=>st'=st1/\∃na nb out ac bc,c=(none,na,nb,out,ac,bc)/\gL rk a b out na nb/\0<na/\1<nb/\na<=a.size/\nb<=b.size/\na+nb+1+x+y<=a.size+b.size)
  (Q:=fun c st'=>st'=st1/\((∃r,c.1=some r/\Fn rk a b r) ∨ ∃na nb out ac bc,c=(none,na,nb,out,ac,bc)/\gL rk a b out na nb/\0<na/\1<nb/\na<=a.size/\nb<=b.size/\na+nb+1+x+1<=a.size+b.size)) ?_ ?_ ⟨rfl,na,nb,out,0,0,rfl,hm,za,zb,zas,zbs,by lia⟩) ?_)
 ·rintro y c st' _ hy ⟨rfl,na,nb,out,ac,bc,rfl,hm,za,zb,zas,zbs,zp⟩
  obtain ⟨bx,hbx,mbx⟩:=U0 (a:=b) (i:=nb - 1) (by lia)
  obtain ⟨ax,hax,max⟩:=U0 (a:=a) (i:=na - 1) (by lia)
  dsimp only
  refine d7 (F7 hbx (d7 (F7 hax (d7 (kH hA hk1 (mb bx mbx) (ma ax max) ?_)))))
  by_cases hlt:rk bx<rk ax
  ·rw[decide_eq_true hlt]
   dsimp only
   rw[if_pos rfl]
   refine d7 (F7 hax ?_)
   have hm':=hm.pushA ua (i:=na - 1) (by lia) hax fun y hy=>B7 (pQ (u:=ub) (n:=nb) (by lia) hbx y hy) (S9 hlt)
   by_cases e3:(na - 1 == 0)=true
   ·rw[if_pos e3]
    exact i7 ⟨rfl,.inl ⟨_,rfl,ENDA hm' (by simpa using e3)⟩⟩
   rw[if_neg e3]
   have e3':na - 1≠0:=by simpa using e3
   split
   ·exact i7 ⟨rfl,.inr ⟨_,_,_,_,_,rfl,hm',by lia,zb,by lia,zbs,by lia⟩⟩
   ·exact i7 ⟨rfl,_,_,_,_,_,rfl,hm',by lia,zb,by lia,zbs,by lia⟩
  ·rw[decide_eq_false hlt]
   dsimp only
   rw[if_neg (by decide)]
   refine d7 (F7 hbx ?_)
   have hm':=hm.pushB ub (i:=nb - 1) (by lia) hbx fun y hy=>B7 (pQ (u:=ua) (n:=na) (by lia) hax y hy) (Int.not_lt.mp hlt)
   by_cases e3:(nb - 1 == 1)=true
   ·rw[if_pos e3]
    exact i7 ⟨rfl,.inl ⟨_,rfl,FIRST hm' (by simpa using e3)⟩⟩
   rw[if_neg e3]
   have e3':nb - 1≠1:=by simpa using e3
   split
   ·exact i7 ⟨rfl,.inr ⟨_,_,_,_,_,rfl,hm',za,by lia,zas,by lia,by lia⟩⟩
   ·exact i7 ⟨rfl,_,_,_,_,_,rfl,hm',za,by lia,zas,by lia,by lia⟩
 ·rintro c st' ⟨rfl,na,nb,out,ac,bc,rfl,hm,z1,z2,z4,z5,z3⟩
  lia
 rintro ⟨c1,c2⟩ st' ⟨rfl,(⟨r,hr,hf⟩|⟨na,nb,out,ac,bc,e,hm,za,zb,zas,zbs,zp⟩)⟩
 ·dsimp only at hr
  subst hr
  exact i7 ⟨gl,r,rfl,hf⟩
 cases e
 dsimp only
 refine d7 (cO (L1 ⟨rfl,?_⟩))
 refine d7 (Q1 (C8 (I:=fun y c st'=>Gl st st'/\∃na nb out mg ac bc,c=(none,na,nb,out,mg,ac,bc)/\gL rk a b out na nb/\0<na/\1<nb/\(na<=a.size/\nb<=b.size)/\na+nb+1+x+1+y<=a.size+b.size)
  (Q:=fun c st'=>Gl st st'/\((∃r,c.1=some r/\Fn rk a b r) ∨ ∃na nb out mg ac bc,c=(none,na,nb,out,mg,ac,bc)/\gL rk a b out na nb/\0<na/\1<nb/\(na<=a.size/\nb<=b.size)/\na+nb+1+x+1<=a.size+b.size)) ?_ ?_ ⟨gl,na,nb,out,_,ac,bc,rfl,hm,za,zb,⟨zas,zbs⟩,by lia⟩) ?_)
 ·rintro y c st2 _ hy ⟨gl2,na,nb,out,mg,ac,bc,rfl,hm,za,zb,⟨zas,zbs⟩,zp⟩
  obtain ⟨bx,hbx,mbx⟩:=U0 (a:=b) (i:=nb - 1) (by lia)
  dsimp only
  apply EH (C:=fun m n:Nat=>True)
  ·intro T
   by_cases hmg:mg<=1
   ·rw[if_neg (by lia)]
    obtain ⟨q,_⟩:∃q:Nat,q=0:=⟨0,rfl⟩
    generalize mg=m
    exact T m q trivial
   ·rw[if_pos (by lia)]
    exact T _ 0 trivial
  intro mg _ _
  refine d7 (D3 ?_)
  refine d7 (F7 hbx ?_)
  refine d7 (GF hA (gl2.1.trans hk) (mb bx mbx) ma ua (n:=na) (by lia) (by lia) fun k hk1' hk2 hk3=>?_)
  dsimp only
  have hca:∀y∈a.toList.take k,rk y<=rk bx:=fun y hy=>by
   have:=hk2 y hy
   unfold bq at this
   rw[if_neg (by decide),S4,decide_eq_false_iff_not] at this
   lia
  have hm1:=hm.extA ua k hk1' fun z hz y hy=>by
   have:=hk3 z hz
   unfold bq at this
   rw[if_neg (by decide),jE,decide_eq_true_iff] at this
   have:=pQ (u:=ub) (n:=nb) (by lia) hbx y hy
   lia
  have hk00:k=na->∀y∈a.toList.take na,rk y<=rk bx:=fun e=>by subst e;exact hca
  generalize hkd:na - k=kd
  apply EH (C:=fun (o:Array i9) n=>gL rk a b o n nb/\(0<n/\n<=a.size)/\n+nb+1+x+1+y<=a.size+b.size/\∀y∈a.toList.take n,rk y<=rk bx)
  ·intro T
   by_cases hk0:k=na
   ·rw[if_neg (by lia)]
    have hc:gL rk a b out na nb/\(0<na/\na<=a.size)/\na+nb+1+x+1+y<=a.size+b.size/\∀y∈a.toList.take na,rk y<=rk bx:=⟨hm,⟨za,zas⟩,by lia,hk00 hk0⟩
    revert hc
    generalize na=n
    generalize out=o
    intro hc
    exact T o n hc
   rw[if_pos (by lia)]
   by_cases e5:(k == 0)=true
   ·rw[if_pos e5]
    exact i7 ⟨⟨gl2.1,gl2.2.1,gl2.2.2.1,gl2.2.2.2⟩,.inl ⟨_,rfl,ENDA hm1 (by simpa using e5)⟩⟩
   rw[if_neg e5]
   have e5':k≠0:=by simpa using e5
   exact T _ _ ⟨hm1,⟨by lia,by lia⟩,by lia,hca⟩
  intro o n ⟨hm,⟨za,zas⟩,zp,hca⟩
  obtain ⟨ax,hax,max⟩:=U0 (a:=a) (i:=n - 1) (by lia)
  refine d7 (F7 hbx ?_)
  have hm2:=hm.pushB ub (i:=nb - 1) (by lia) hbx hca
  by_cases e6:(nb - 1 == 1)=true
  ·rw[if_pos e6]
   exact i7 ⟨⟨gl2.1,gl2.2.1,gl2.2.2.1,gl2.2.2.2⟩,.inl ⟨_,rfl,FIRST hm2 (by simpa using e6)⟩⟩
  rw[if_neg e6]
  have e6':nb - 1≠1:=by simpa using e6
  generalize o.push bx=o2 at hm2 ⊢
  generalize hl:nb - 1=l at hm2 e6' ⊢
  refine d7 (F7 hax ?_)
  refine d7 (GF hA (gl2.1.trans hk) (ma ax max) mb ub (n:=l) (by lia) (by lia) fun j hj1 hj2 hj3=>?_)
  dsimp only
  have hcb:∀y∈b.toList.take j,rk y<=rk ax:=fun y hy=>by
   have:=hj2 y hy
   unfold bq at this
   rw[if_pos rfl,decide_eq_true_iff] at this
   lia
  have hm3:=hm2.extB ub j hj1 fun z hz y hy=>by
   have:=hj3 z hz
   unfold bq at this
   rw[if_pos rfl,decide_eq_false_iff_not] at this
   have:=pQ (u:=ua) (n:=n) (by lia) hax y hy
   lia
  have hj00:j=l->∀y∈b.toList.take l,rk y<=rk ax:=fun e=>by subst e;exact hcb
  generalize hjd:l - j=jd
  apply EH (C:=fun (o:Array i9) m=>gL rk a b o n m/\(1<m/\m<=b.size)/\n+m+1+1+x+1+y<=a.size+b.size/\∀y∈b.toList.take m,rk y<=rk ax)
  ·intro T
   by_cases hj0:j=l
   ·rw[if_neg (by lia)]
    have hc:gL rk a b o2 n l/\(1<l/\l<=b.size)/\n+l+1+1+x+1+y<=a.size+b.size/\∀y∈b.toList.take l,rk y<=rk ax:=⟨hm2,⟨by lia,by lia⟩,by lia,hj00 hj0⟩
    revert hc
    generalize l=m
    generalize o2=o
    intro hc
    exact T o m hc
   rw[if_pos (by lia)]
   by_cases e7:(j == 1)=true
   ·rw[if_pos e7]
    exact i7 ⟨⟨gl2.1,gl2.2.1,gl2.2.2.1,gl2.2.2.2⟩,.inl ⟨_,rfl,FIRST hm3 (by simpa using e7)⟩⟩
   rw[if_neg e7]
   by_cases e9:(j == 0)=true
   ·rw[if_pos e9]
    exact i7 ⟨⟨gl2.1,gl2.2.1,gl2.2.2.1,gl2.2.2.2⟩,.inl ⟨_,rfl,ENDB hm3 (by simpa using e9)⟩⟩
   rw[if_neg e9]
   have e7':j≠1:=by simpa using e7
   have e9':j≠0:=by simpa using e9
   exact T _ _ ⟨hm3,⟨by lia,by lia⟩,by lia,hcb⟩
  intro o m ⟨hm,⟨zm,zms⟩,zp,hcb⟩
  refine d7 (F7 hax ?_)
  have hm4:=hm.pushA ua (i:=n - 1) (by lia) hax hcb
  by_cases e8:(n - 1 == 0)=true
  ·rw[if_pos e8]
   exact i7 ⟨⟨gl2.1,gl2.2.1,gl2.2.2.1,gl2.2.2.2⟩,.inl ⟨_,rfl,ENDA hm4 (by simpa using e8)⟩⟩
  rw[if_neg e8]
  have e8':n - 1≠0:=by simpa using e8
  split
  ·exact i7 ⟨⟨gl2.1,gl2.2.1,gl2.2.2.1,gl2.2.2.2⟩,.inr ⟨_,_,_,_,_,_,rfl,hm4,by lia,by lia,⟨by lia,by lia⟩,by lia⟩⟩
  ·exact i7 ⟨⟨gl2.1,gl2.2.1,gl2.2.2.1,gl2.2.2.2⟩,_,_,_,_,_,_,rfl,hm4,by lia,by lia,⟨by lia,by lia⟩,by lia⟩
 ·rintro c st' ⟨_,na,nb,out,mg,ac,bc,rfl,hm,z1,z2,z4,z3⟩
  lia
 ·rintro ⟨c1,c2⟩ st2 ⟨gl2,(⟨r,hr,hf⟩|⟨na,nb,out,mg,ac,bc,e,hm,za,zb,⟨zas,zbs⟩,zp⟩)⟩
  ·dsimp only at hr
   subst hr
   exact i7 ⟨gl2,r,rfl,hf⟩
  ·cases e
   dsimp only
   refine d7 (D3 ?_)
   exact i7 ⟨⟨gl2.1,gl2.2.1,gl2.2.2.1,gl2.2.2.2⟩,_,_,_,_,rfl,hm,za,zb,zas,zbs,by lia⟩
end
theorem Ci:∀(ms:List i9) (arr:Array i9) (sa k:Nat),sa+k+ms.length<=arr.size ->
  ((ms.zipIdx k).foldl (fun a (p:i9 × Nat)=>a.setIfInBounds (sa+p.2) p.1) arr).toList=arr.toList.take (sa+k)++ms++arr.toList.drop (sa+k+ms.length)
 | [],arr,sa,k,_=>by simp
 | m::ms,arr,sa,k,h=>by
  rw[lX,List.foldl_cons]
  rw[p4] at h
  have ih:=Ci ms (arr.setIfInBounds (sa+k) m) sa (k+1) (by rw[Array.size_setIfInBounds];lia)
  rw[ih,Array.toList_setIfInBounds]
  have hl:sa+k<arr.toList.length:=by rw[A8];lia
  rw[p4,show sa+(k+1)=sa+k+1 by lia]
  generalize sa+k=p at hl
  generalize arr.toList=L at hl
  have e:L.set p m=(L.take p++[m])++L.drop (p+1):=by
   rw[List.set_eq_take_append_cons_drop,if_pos hl];simp
  have ln:(L.take p++[m]).length=p+1:=by rw[n8,m8];simp;lia
  rw[e,List.take_left' ln,List.drop_append,L8 (by lia),List.nil_append,ln,show p+1+ms.length - (p+1)=ms.length by lia,gH,S3 (L.take p),show p+1+ms.length=p+(ms.length+1) by lia]
  simp
section
variable {prog:f6}{w:j6}{A:r6}{E:b8->b9->Prop}{s:b9}{rk:i9->Int}{M:i9->Prop}{κ:aO}
theorem AK {σ:Type}{st st2:σ}{MM:lW}{Q:PUnit->σ->Prop} (h:Q ⟨⟩ st2):wpS MM A E s (set st2:StateT σ Sem PUnit) Q st:=by
 unfold wpS
 exact d5 ⟨rfl,h⟩
theorem GD {left:Bool}{key:i9}{a:Array i9}{b n hint:Nat}{st:C9}{Q:Option Nat->C9->Prop} (hA:sS prog w A s rk M κ) (hk:kindOf st=κ) (mk:M key) (ma:∀x∈a.toList,M x) (u:Up rk ((a.toList.drop b).take n)) (hh:hint<n) (hs:b+n<=a.size)
  (h:∀k,k<=n->(∀x∈(a.toList.drop b).take k,bq rk left key x=true)->(∀x∈((a.toList.drop b).take n).drop k,bq rk left key x=false)->Q (some k) st):wpS (n0 prog w) A E s (kj left key a b n hint) Q st:=by
 have hg:∀j,j<n->a[b+j]?=some (a.getD (b+j) key):=fun j hj=>by
  rw[B9 (by lia)]
  simp[yk,show b+j<a.size by lia]
 have hL:∀j,j<n->((a.toList.drop b).take n)[j]?=some (a.getD (b+j) key):=fun j hj=>by
  rw[K6,if_pos hj,G6]
  exact I0 (hg j hj)
 refine js (xs:=fun j=>a.getD (b+j) key) hA hk mk hh (fun j hj=>⟨hg j hj,?_⟩) (fun j1 j2 h12 h2 hb=>?_) (fun k h1 h2 h3=>h k (by lia) (fun x hx=>?_) (fun x hx=>?_))
 ·exact ma _ (t7 (I0 (hg j hj)))
 ·have hle:=u.le (hL j1 (by lia)) (hL j2 h2) (by lia)
  unfold bq at hb ⊢
  cases left with
  | true =>
   rw[if_pos rfl] at hb ⊢
   have:=of_decide_eq_true hb
   exact decide_eq_true (by lia)
  | false =>
   rw[if_neg (by decide)] at hb ⊢
   rw[S4,decide_eq_false_iff_not] at hb ⊢
   lia
 ·obtain ⟨j,hj,hx'⟩:=kL hx
  have:=h2 j hj
  have e:=hg j (by lia)
  rw[hx'] at e
  injection e with e
  show bq rk left key x=true
  rw[e];exact this
 ·obtain ⟨j,hj⟩:=List.mem_iff_getElem?.mp hx
  rw[G6] at hj
  have hlt:k+j<n:=by
   have:=(List.getElem?_eq_some_iff.mp hj).1
   rw[m8] at this
   lia
  have:=h3 (k+j) (by lia) hlt
  rw[hL (k+j) hlt] at hj
  injection hj with hj
  show bq rk left key x=false
  rw[<- hj];exact this
theorem uE {arr:Array i9}{n1 n2 p1 p2 mg:Nat}{Q:Bool->C9->Prop} (hA:sS prog w A s rk M κ) (m:∀x∈arr.toList,M x) (h1:0<n1) (h2:0<n2) (hN:n1+n2=arr.size) (u1:Up rk (arr.toList.take n1)) (u2:Up rk (arr.toList.drop n1))
  (h:∀(arr':Array i9) (mg':Nat),arr'.toList.Perm arr.toList->Up rk arr'.toList->Q true (n6 κ arr' #[(0,n1+n2,p1)] mg' none)):wpS (n0 prog w) A E s (mergeAt' 0) Q (n6 κ arr #[(0,n1,p1),(n1,n2,p2)] mg none):=by
 have hlen:arr.toList.length=n1+n2:=by rw[A8];lia
 obtain ⟨b0,hb0,mb0⟩:=U0 (a:=arr) (i:=n1) (by lia)
 obtain ⟨al,hal,mal⟩:=U0 (a:=arr) (i:=n1 - 1) (by lia)
 refine d7 (S2 ?_)
 refine d7 (AK ?_)
 have hpend:(((#[(0,n1,p1),(n1,n2,p2)]:Array (Nat × Nat × Nat)).setIfInBounds 0 (0,n1+n2,p1)).eraseIdxIfInBounds (0+1))=#[(0,n1+n2,p1)]:=by first|rfl|simp[Array.eraseIdxIfInBounds]
 dsimp only
 rw[hpend]
 refine d7 (F7 hb0 ?_)
 have u1':Up rk ((arr.toList.drop 0).take n1):=by rw[L7];exact u1
 refine d7 (GD (b:=0) (n:=n1) (hint:=0) hA rfl (m b0 mb0) m u1' h1 (by lia) fun k hk hk2 hk3=>?_)
 rw[L7] at hk2 hk3
 have low:∀x∈arr.toList.take k,rk x<=rk b0:=fun x hx=>by
  have:=hk2 x hx
  unfold bq at this
  rw[if_neg (by decide),S4,decide_eq_false_iff_not] at this
  lia
 have upr:∀x∈(arr.toList.take n1).drop k,rk b0<rk x:=fun x hx=>by
  have:=hk3 x hx
  unfold bq at this
  rw[if_neg (by decide),jE,decide_eq_true_iff] at this
  exact this
 have ball:∀y∈arr.toList.drop n1,rk b0<=rk y:=fun y hy=>by
  obtain ⟨j,hj⟩:=List.mem_iff_getElem?.mp hy
  exact u2.le (i:=0) (by rw[G6];exact I0 hb0) hj (j5 _)
 have aall:∀x∈arr.toList.take n1,rk x<=rk al:=fun x hx=>by
  obtain ⟨j,hj⟩:=List.mem_iff_getElem?.mp hx
  have hjl:=(List.getElem?_eq_some_iff.mp hj).1
  rw[m8] at hjl
  exact u1.le hj (j:=n1 - 1) (by rw[K6,if_pos (by lia)];exact I0 hal) (by lia)
 have whole:∀c:(∀x∈arr.toList.take n1,∀y∈arr.toList.drop n1,rk x<=rk y),Up rk arr.toList:=fun c=>by
  have:=u1.app u2 c
  rw[y7] at this
  exact this
 simp only[S6]
 by_cases e1:(n1 - k == 0)=true
 ·rw[if_pos e1]
  have e1':n1 - k=0:=by simpa using e1
  have ek:k=n1:=by lia
  refine i7 (h arr mg (X1 _) (whole fun x hx y hy=>?_))
  rw[ek] at low
  exact B7 (low x hx) (ball y hy)
 rw[if_neg e1]
 have e1':n1 - k≠0:=by simpa using e1
 refine d7 (F7 (x:=al) (by rw[<- hal];congr 1;lia) ?_)
 have u2':Up rk ((arr.toList.drop n1).take n2):=u2.take n2
 refine d7 (GD (b:=n1) (n:=n2) (hint:=n2 - 1) hA rfl (m al mal) m u2' (by lia) (by lia) fun j hj hj2 hj3=>?_)
 have blow:∀y∈(arr.toList.drop n1).take j,rk y<rk al:=fun y hy=>by
  have:=hj2 y hy
  unfold bq at this
  rw[if_pos rfl,decide_eq_true_iff] at this
  exact this
 have bhi:∀y∈(arr.toList.drop n1).drop j,rk al<=rk y:=fun y hy=>by
  have:=hj3 y (by rw[C1 (by rw[A6];lia)];exact hy)
  unfold bq at this
  rw[if_pos rfl,decide_eq_false_iff_not] at this
  lia
 dsimp only
 by_cases e2:(j == 0)=true
 ·rw[if_pos e2]
  have e2':j=0:=by simpa using e2
  refine i7 (h arr mg (X1 _) (whole fun x hx y hy=>?_))
  rw[e2',L7] at bhi
  exact B7 (aall x hx) (bhi y hy)
 rw[if_neg e2]
 have e2':j≠0:=by simpa using e2
 have eX:(arr.extract k n1).toList=(arr.toList.take n1).drop k:=km _ _ _
 have eY:(arr.extract n1 (n1+j)).toList=(arr.toList.drop n1).take j:=by rw[fh,show n1+j - n1=j by lia]
 have sX:(arr.extract k n1).size=n1 - k:=by rw[yj];lia
 have sY:(arr.extract n1 (n1+j)).size=j:=by rw[yj];lia
 have FIN:∀(r:Array i9) (st':C9),Fn rk (arr.extract k n1) (arr.extract n1 (n1+j)) r->Gl (n6 κ arr #[(0,n1+n2,p1)] mg none) st'->∃(arr':Array i9),(Ak (fun a (x:i9 × Nat)=>a.setIfInBounds (k+x.2) x.1) (W0 st') r.toList.zipIdx)=arr'/\arr'.toList.Perm arr.toList/\Up rk arr'.toList:=fun r st' hf gl=>by
  obtain ⟨hp,hu⟩:=hf
  rw[eX,eY] at hp
  have hrl:r.toList.length=n1 - k+j:=by rw[hp.length_eq,n8,A6,m8,m8,A6];lia
  have hw:=Ci r.toList (W0 st') k 0 (by rw[gl.2.1];show k+0+r.toList.length<=arr.size;lia)
  have ea:(W0 st').toList=arr.toList:=by rw[gl.2.1]
  rw[ea,hrl,Nat.add_zero,show k+(n1 - k+j)=n1+j by lia] at hw
  refine ⟨_,rfl,?_⟩
  have hw':(Ak (fun a (x:i9 × Nat)=>a.setIfInBounds (k+x.2) x.1) (W0 st') r.toList.zipIdx).toList=arr.toList.take k++r.toList++arr.toList.drop (n1+j):=by
   rw[<- hw]
  rw[hw']
  have eL:arr.toList=arr.toList.take k++((arr.toList.take n1).drop k++(arr.toList.drop n1).take j)++arr.toList.drop (n1+j):=by
   have q1:arr.toList.take n1=arr.toList.take k++(arr.toList.take n1).drop k:=by
    have:=(y7 k (arr.toList.take n1)).symm
    rw[qB,nW hk] at this
    exact this
   have q2:arr.toList.drop n1=(arr.toList.drop n1).take j++arr.toList.drop (n1+j):=by
    have:=(y7 j (arr.toList.drop n1)).symm
    rw[gH] at this
    exact this
   conv=>lhs;rw[<- y7 n1 arr.toList,q1,q2]
   simp only[S3]
  constructor
  ·conv=>rhs;rw[eL]
   exact ((hp.append_left _).append_right _)
  ·have memr:∀x∈r.toList,x∈(arr.toList.take n1).drop k ∨ x∈(arr.toList.drop n1).take j:=fun x hx=>List.mem_append.mp (hp.mem_iff.mp hx)
   have hd:arr.toList.drop (n1+j)=(arr.toList.drop n1).drop j:=by rw[gH]
   have tk:Up rk (arr.toList.take k):=by
    have:=u1.take k
    rw[qB,nW hk] at this
    exact this
   refine Up.app (Up.app tk hu fun x hx y hy=>?_) (by rw[hd];exact u2.drop j) fun x hx y hy=>?_
   ·rcases memr y hy with z|z
    ·exact B7 (low x hx) (S9 (upr y z))
    ·exact B7 (low x hx) (ball y (v7 z))
   ·rw[hd] at hy
    rcases List.mem_append.mp hx with z|z
    ·exact B7 (low x z) (ball y (K8 hy))
    ·rcases memr x z with z|z
     ·exact B7 (aall x (K8 z)) (bhi y hy)
     ·exact B7 (S9 (blow x z)) (bhi y hy)
 have mX:∀x∈(arr.extract k n1).toList,M x:=fun x hx=>by rw[eX] at hx;exact m x (v7 (K8 hx))
 have mY:∀x∈(arr.extract n1 (n1+j)).toList,M x:=fun x hx=>by rw[eY] at hx;exact m x (K8 (v7 hx))
 have uX:Up rk (arr.extract k n1).toList:=by rw[eX];exact u1.drop k
 have uY:Up rk (arr.extract n1 (n1+j)).toList:=by rw[eY];exact u2.take j
 have h0:∀x y,(arr.extract k n1)[0]?=some x->(arr.extract n1 (n1+j))[0]?=some y->rk y<=rk x:=fun x y hx hy=>by
  have hx':x∈(arr.extract k n1).toList:=t7 (I0 hx)
  rw[eX] at hx'
  have hy':=I0 hy
  rw[eY,K6,if_pos (by lia),G6] at hy'
  have:=I0 hb0
  rw[show n1+0=n1 by lia,this] at hy'
  injection hy' with hy'
  rw[<- hy']
  exact S9 (upr x hx')
 have hl:∀x,(arr.extract k n1)[(arr.extract k n1).size - 1]?=some x->∀y∈(arr.extract n1 (n1+j)).toList,rk y<=rk x:=fun x hx y hy=>by
  rw[eY] at hy
  have hx':=I0 hx
  rw[eX,G6,sX,K6,if_pos (by lia),show k+(n1 - k - 1)=n1 - 1 by lia,I0 hal] at hx'
  injection hx' with hx'
  rw[<- hx']
  exact S9 (blow y hy)
 have JP:∀(r:Array i9) (st':C9),Fn rk (arr.extract k n1) (arr.extract n1 (n1+j)) r->Gl (n6 κ arr #[(0,n1+n2,p1)] mg none) st'->Q true (n6 (kindOf st') (Ak (fun a (x:i9 × Nat)=>a.setIfInBounds (k+x.2) x.1) (W0 st') r.toList.zipIdx) (T4 st') (gallopOf st') (Y3 st')):=fun r st' hf gl=>by
  obtain ⟨arr',e,hp,hu⟩:=FIN r st' hf gl
  rw[e,gl.1,gl.2.2.1,gl.2.2.2]
  exact h arr' _ hp hu
 have JF:∀(st':C9),Gl (n6 κ arr #[(0,n1+n2,p1)] mg none) st'->(Y3 st').isNone=true:=fun st' gl=>by rw[gl.2.2.2];rfl
 split
 ·refine d7 (uC hA rfl mX mY uX uY (by rw[sX];lia) (by rw[sY];lia) h0 hl fun r st' hf gl=>?_)
  refine d7 (D3 (d7 (S2 (i7 ?_))))
  have:=JP r st' hf gl
  rw[<- JF st' gl] at this
  exact this
 ·refine d7 (uD hA rfl mX mY uX uY (by rw[sX];lia) (by rw[sY];lia) h0 hl fun r st' hf gl=>?_)
  refine d7 (D3 (d7 (S2 (i7 ?_))))
  have:=JP r st' hf gl
  rw[<- JF st' gl] at this
  exact this
end
noncomputable def Kv (rk:i9->Int) (arr:Array i9) (i:Nat):Int:=rk ((arr[i]?).getD (A5,A5))
variable {a:Array i9}
theorem Kv.congr {rk:i9->Int}{b:Array i9}(h:a[i]?=b[j]?):Kv rk a i=Kv rk b j:=by unfold Kv;rw[h]
noncomputable def jx (rk:i9->Int) (arr:Array i9) (lo n:Nat):Prop:=∀i j,lo<=i->i<=j->j<lo+n->Kv rk arr i<=Kv rk arr j
noncomputable def tF (rk:i9->Int) (arr:Array i9) (lo n:Nat):Prop:=∀i j,lo<=i->i<=j->j<lo+n->Kv rk arr j<=Kv rk arr i
structure aV (lo:Nat) (a b:Array i9):Prop where
 perm:b.toList.Perm a.toList
 low:∀i,i<lo->b[i]?=a[i]?
theorem aV.refl (lo:Nat) (a:Array i9):aV lo a a:=⟨X1 _,fun _ _=>rfl⟩
theorem aV.trans {lo:Nat}{a b c:Array i9} (h:aV lo a b) (k:aV lo b c):aV lo a c:=⟨k.perm.trans h.perm,fun i hi=>(k.low i hi).trans (h.low i hi)⟩
theorem aV.size {lo:Nat}{a b:Array i9} (h:aV lo a b):b.size=a.size:=by have:=h.perm.length_eq;simpa using this
variable {lo:Nat}
theorem aV.mirror (hi:lo<=i) (hj:j<=a.size):aV lo a (G0 a i j ((j - i) / 2)):=
 ⟨Array.perm_iff_toList_perm.mp (mirror_perm a i j _),fun k hk=>by rw[Et hj,if_neg (by lia)]⟩
theorem Kv.mirror {rk:i9->Int}(hj:j<=a.size) (k:Nat):Kv rk (G0 a i j ((j - i) / 2)) k=if i<=k/\k<j then Kv rk a (i+j - 1 - k) else Kv rk a k:=by
 have e:=Et (i:=i) hj k
 by_cases h1:i<=k/\k<j
 ·rw[if_pos h1] at e ⊢;exact Kv.congr e
 ·rw[if_neg h1] at e ⊢;exact Kv.congr e
theorem dm {rk:i9->Int}(hj:j<=a.size) (heq:∀k,i<=k->k<j->Kv rk a k=Kv rk a (j - 1)) (k:Nat):Kv rk (G0 a i j ((j - i) / 2)) k=Kv rk a k:=by
 rw[Kv.mirror hj]
 split
 ·rw[heq _ (by lia) (by lia),heq k (by lia) (by lia)]
 ·rfl
theorem tF.more' {rk:i9->Int}{x:Nat} (h:tF rk a lo x) (hlt:Kv rk a (lo+x)<=Kv rk a (lo+x - 1)):tF rk a lo (x+1):=fun i j hi hij hj=>by
 by_cases hjx:j<lo+x
 ·exact h i j hi hij hjx
 ·have:j=lo+x:=by lia
  subst this
  by_cases hix:i=lo+x
  ·subst hix;exact aL _
  ·exact B7 hlt (h i (lo+x - 1) hi (by lia) (by lia))
theorem tF.more {rk:i9->Int}{x:Nat} (h:tF rk a lo x) (hlt:Kv rk a (lo+x)<Kv rk a (lo+x - 1)):tF rk a lo (x+1):=h.more' (S9 hlt)
section
variable {prog:f6}{w:j6}{A:r6}{E:b8->b9->Prop}{s:b9}{rk:i9->Int}{M:i9->Prop}{κ:aO}{pd:Array (Nat × Nat × Nat)}{mg:Nat}
variable {arr:Array i9}
theorem aB {i j:Nat}{Q:Option Bool->C9->Prop} (hA:sS prog w A s rk M κ) (m:∀x∈arr.toList,M x) (hi:i<arr.size) (hj:j<arr.size) (h:Q (some (decide (Kv rk arr i<Kv rk arr j))) (n6 κ arr pd mg none)):wpS (n0 prog w) A E s (ltAt' i j) Q (n6 κ arr pd mg none):=by
 obtain ⟨x,hx,mx⟩:=U0 (a:=arr) hi
 obtain ⟨y,hy,my⟩:=U0 (a:=arr) hj
 have e1:Kv rk arr i=rk x:=by unfold Kv;rw[hx];rfl
 have e2:Kv rk arr j=rk y:=by unfold Kv;rw[hy];rfl
 rw[e1,e2] at h
 rw[ltAt'_eq]
 refine d7 (S2 ?_)
 exact d7 (F7 hx (d7 (F7 hy (kH hA rfl (m x mx) (m y my) h))))
theorem fj {st:C9}{lo a nrem:Nat}{f:Nat->Option (Option Nat) × Nat->StateT C9 Sem (ForInStep (Option (Option Nat) × Nat))}{Q:Option (Option Nat) × Nat->C9->Prop}
  (hstep:∀(x n:Nat) (R:ForInStep (Option (Option Nat) × Nat)->C9->Prop),1<=n->n<nrem->(Kv rk arr (lo+n)<Kv rk arr (lo+n - 1)->R (.done (none,n)) st)->(¬ Kv rk arr (lo+n)<Kv rk arr (lo+n - 1)->R (.yield (none,n+1)) st)->wpS (n0 prog w) A E s (f x (none,n)) R st)
  (ha:1<=a) (han:a<=nrem) (hs:jx rk arr lo a) (h:∀n,a<=n->n<=nrem->jx rk arr lo n->(n=nrem ∨ Kv rk arr (lo+n)<Kv rk arr (lo+n - 1))->Q (none,n) st):wpS (n0 prog w) A E s (forIn [a:nrem] (none,a) f) Q st:=by
 refine C8 (I:=fun x c st'=>st'=st/\c=(none,x)/\jx rk arr lo x) ?_ ?_ ⟨rfl,rfl,hs⟩
 ·rintro x c st' hax hxn ⟨rfl,rfl,hs'⟩
  refine hstep x x _ (by lia) hxn (fun hlt=>h x hax (by lia) hs' (.inr hlt)) (fun hlt=>⟨rfl,rfl,fun i j hi hij hj=>?_⟩)
  by_cases hjx:j<lo+x
  ·exact hs' i j hi hij hjx
  ·have hj':j=lo+x:=by lia
   subst hj'
   by_cases hi':i=lo+x
   ·subst hi';exact aL _
   ·exact B7 (hs' i (lo+x - 1) hi (by lia) (by lia)) (Int.not_lt.mp hlt)
 ·rintro c st' ⟨rfl,rfl,hs'⟩
  rw[show max a nrem=nrem by lia] at hs' ⊢
  exact h nrem han (d9 _) hs' (.inl rfl)
theorem fi {lo nrem:Nat}{Q:Option Nat->C9->Prop} (hA:sS prog w A s rk M κ) (m:∀x∈arr.toList,M x) (h1:1<=nrem) (hN:lo+nrem<=arr.size)
  (h:∀(arr':Array i9) (n:Nat),1<=n->n<=nrem->aV lo arr arr'->jx rk arr' lo n->Q (some n) (n6 κ arr' pd mg none)):wpS (n0 prog w) A E s (countRun' lo nrem) Q (n6 κ arr pd mg none):=by
 have one:jx rk arr lo 1:=fun i j hi hij hj=>by
  have:i=j:=by lia
  subst this;exact aL _
 refine d7 (fj (arr:=arr) (lo:=lo) ?_ (d9 1) h1 one fun n hn1 hn2 hs hend=>?_)
 ·intro x n R hn hnn r1 r2
  dsimp only
  refine d7 (aB hA m (by lia) (by lia) ?_)
  by_cases hlt:Kv rk arr (lo+n)<Kv rk arr (lo+n - 1)
  ·rw[decide_eq_true hlt];exact i7 (r1 hlt)
  ·rw[decide_eq_false hlt];exact i7 (r2 hlt)
 dsimp only
 by_cases e1:(n == nrem)=true
 ·rw[if_pos e1]
  exact i7 (h arr n hn1 hn2 (aV.refl lo arr) hs)
 rw[if_neg e1]
 have e1':n≠nrem:=by simpa using e1
 have hlt:=hend.resolve_left e1'
 by_cases hn:n > 1
 ·rw[if_pos hn]
  refine d7 (aB hA m (by lia) (by lia) ?_)
  by_cases hrose:Kv rk arr lo<Kv rk arr (lo+n - 1)
  ·rw[decide_eq_true hrose]
   exact i7 (h arr n hn1 hn2 (aV.refl lo arr) hs)
  rw[decide_eq_false hrose]
  dsimp only
  rw[if_neg (by decide)]
  refine d7 (D3 ?_)
  have alleq:∀k,lo<=k->k<lo+n->Kv rk arr k=Kv rk arr (lo+n - 1):=fun k hk1 hk2=>by
   have a1:=hs lo k (d9 _) hk1 hk2
   have a2:=hs k (lo+n - 1) hk1 (by lia) (by lia)
   lia
  have eqv:=dm (rk:=rk) (a:=arr) (i:=lo) (j:=lo+n) (by lia) alleq
  have k1:aV lo arr (G0 arr lo (lo+n) ((lo+n - lo) / 2)):=aV.mirror (d9 _) (by lia)
  have d1:tF rk (G0 arr lo (lo+n) ((lo+n - lo) / 2)) lo (n+1):=by
   refine tF.more (fun i j hi hij hj=>?_) (by rw[eqv,eqv];exact hlt)
   rw[eqv,eqv,alleq i hi (by lia),alleq j (by lia) (by lia)]
   exact aL _
  show wpS _ _ _ _ _ _ (n6 κ (G0 arr lo (lo+n) ((lo+n - lo) / 2)) pd mg none)
  generalize G0 arr lo (lo+n) ((lo+n - lo) / 2)=arr1 at k1 d1
  refine d7 (cO (L1 ⟨rfl,?_⟩))
  refine d7 (Q1 (C8 (I:=fun x c st'=>∃arr2 neq,c=(none,x,neq)/\st'=n6 κ arr2 pd mg none/\aV lo arr arr2/\tF rk arr2 lo x/\neq+1<=x/\(∀i,lo+x - (neq+1)<=i->i<lo+x->Kv rk arr2 i=Kv rk arr2 (lo+x - 1)))
   (Q:=fun c st'=>∃arr2 n2 neq,c=(none,n2,neq)/\st'=n6 κ arr2 pd mg none/\aV lo arr arr2/\tF rk arr2 lo n2/\neq+1<=n2/\(∀i,lo+n2 - (neq+1)<=i->i<lo+n2->Kv rk arr2 i=Kv rk arr2 (lo+n2 - 1))/\n+1<=n2/\n2<=nrem) ?_ ?_ ⟨_,0,rfl,rfl,k1,d1,by lia,fun i hi hi2=>by congr 1;lia⟩) ?_)
  ·rintro x c st' hnx hx ⟨arr2,neq,rfl,rfl,k2,d2,q1,q2⟩
   have m2:∀x∈arr2.toList,M x:=fun x hx=>m x (k2.perm.mem_iff.mp hx)
   have z2:=k2.size
   dsimp only
   refine d7 (aB hA m2 (by lia) (by lia) ?_)
   by_cases hlt:Kv rk arr2 (lo+x)<Kv rk arr2 (lo+x - 1)
   ·rw[decide_eq_true hlt]
    dsimp only
    rw[if_pos rfl]
    by_cases hq:neq > 0
    ·rw[if_pos hq]
     refine d7 (D3 (i7 ⟨_,0,rfl,rfl,k2.trans (aV.mirror (by lia) (by lia)),?_,by lia,fun i hi hi2=>by congr 1;lia⟩))
     have eqv:=dm (rk:=rk) (a:=arr2) (i:=lo+x - (neq+1)) (j:=lo+x) (by lia) q2
     intro i j hi hij hj
     show Kv rk (G0 arr2 _ _ _) j<=Kv rk (G0 arr2 _ _ _) i
     rw[eqv,eqv]
     exact d2.more hlt i j hi hij (by lia)
    ·rw[if_neg hq]
     exact i7 ⟨arr2,0,rfl,rfl,k2,fun i j hi hij hj=>d2.more hlt i j hi hij (by lia),by lia,fun i hi hi2=>by congr 1;lia⟩
   ·rw[decide_eq_false hlt]
    dsimp only
    rw[if_neg (by decide)]
    refine d7 (aB hA m2 (by lia) (by lia) ?_)
    by_cases hgt:Kv rk arr2 (lo+x - 1)<Kv rk arr2 (lo+x)
    ·rw[decide_eq_true hgt]
     dsimp only
     rw[if_pos rfl]
     exact i7 ⟨arr2,x,neq,rfl,rfl,k2,d2,q1,q2,hnx,by lia⟩
    ·rw[decide_eq_false hgt]
     dsimp only
     rw[if_neg (by decide)]
     have heq:Kv rk arr2 (lo+x)=Kv rk arr2 (lo+x - 1):=by lia
     refine i7 ⟨arr2,neq+1,rfl,rfl,k2,fun i j hi hij hj=>?_,by lia,fun i hi hi2=>?_⟩
     ·exact d2.more' (by lia) i j hi hij (by lia)
     ·rw[show lo+(x+1) - 1=lo+x by lia,heq]
      by_cases hix:i=lo+x
      ·rw[hix,heq]
      ·exact q2 i (by lia) (by lia)
  ·rintro c st' ⟨arr2,neq,rfl,rfl,k2,d2,q1,q2⟩
   rw[show max (n+1) nrem=nrem by lia] at d2 q1 q2 ⊢
   exact ⟨arr2,nrem,neq,rfl,rfl,k2,d2,q1,q2,by lia,d9 _⟩
  ·rintro c st' ⟨arr2,n2,neq,rfl,rfl,k2,d2,q1,q2,hn2a,hn2b⟩
   have z2:=k2.size
   dsimp only
   by_cases hq:neq > 0
   ·rw[if_pos hq]
    refine d7 (D3 ?_)
    have eqv:=dm (rk:=rk) (a:=arr2) (i:=lo+n2 - (neq+1)) (j:=lo+n2) (by lia) q2
    have k4:aV lo arr (G0 arr2 (lo+n2 - (neq+1)) (lo+n2) ((lo+n2 - (lo+n2 - (neq+1))) / 2)):=k2.trans (aV.mirror (by lia) (by lia))
    have d4:tF rk (G0 arr2 (lo+n2 - (neq+1)) (lo+n2) ((lo+n2 - (lo+n2 - (neq+1))) / 2)) lo n2:=fun i j hi hij hj=>by rw[eqv,eqv];exact d2 i j hi hij hj
    show wpS _ _ _ _ _ _ (n6 κ (G0 arr2 (lo+n2 - (neq+1)) (lo+n2) ((lo+n2 - (lo+n2 - (neq+1))) / 2)) pd mg none)
    generalize G0 arr2 (lo+n2 - (neq+1)) (lo+n2) ((lo+n2 - (lo+n2 - (neq+1))) / 2)=arr4 at k4 d4
    refine d7 (D3 ?_)
    have k5:aV lo arr (G0 arr4 lo (lo+n2) ((lo+n2 - lo) / 2)):=k4.trans (aV.mirror (d9 _) (by rw[k4.size];lia))
    have s5:jx rk (G0 arr4 lo (lo+n2) ((lo+n2 - lo) / 2)) lo n2:=fun i j hi hij hj=>by
     rw[Kv.mirror (by rw[k4.size];lia),Kv.mirror (by rw[k4.size];lia),if_pos (by lia),if_pos (by lia)]
     exact d4 _ _ (by lia) (by lia) (by lia)
    have m5:∀x∈(G0 arr4 lo (lo+n2) ((lo+n2 - lo) / 2)).toList,M x:=fun x hx=>m x (k5.perm.mem_iff.mp hx)
    have z5:=k5.size
    show wpS _ _ _ _ _ _ (n6 κ (G0 arr4 lo (lo+n2) ((lo+n2 - lo) / 2)) pd mg none)
    generalize G0 arr4 lo (lo+n2) ((lo+n2 - lo) / 2)=arr5 at k5 s5 m5 z5
    refine d7 (fj (arr:=arr5) (lo:=lo) ?_ (by lia) (by lia) s5 fun n3 hn31 hn32 hs3 _=>i7 (h arr5 n3 (by lia) hn32 k5 hs3))
    intro x n R hn hnn r1 r2
    dsimp only
    refine d7 (aB hA m5 (by lia) (by lia) ?_)
    by_cases hlt:Kv rk arr5 (lo+n)<Kv rk arr5 (lo+n - 1)
    ·rw[decide_eq_true hlt];exact i7 (r1 hlt)
    ·rw[decide_eq_false hlt];exact i7 (r2 hlt)
   ·rw[if_neg hq]
    have k4:=k2
    have d4:=d2
    generalize arr2=arr4 at k4 d4
    refine d7 (D3 ?_)
    have k5:aV lo arr (G0 arr4 lo (lo+n2) ((lo+n2 - lo) / 2)):=k4.trans (aV.mirror (d9 _) (by rw[k4.size];lia))
    have s5:jx rk (G0 arr4 lo (lo+n2) ((lo+n2 - lo) / 2)) lo n2:=fun i j hi hij hj=>by
     rw[Kv.mirror (by rw[k4.size];lia),Kv.mirror (by rw[k4.size];lia),if_pos (by lia),if_pos (by lia)]
     exact d4 _ _ (by lia) (by lia) (by lia)
    have m5:∀x∈(G0 arr4 lo (lo+n2) ((lo+n2 - lo) / 2)).toList,M x:=fun x hx=>m x (k5.perm.mem_iff.mp hx)
    have z5:=k5.size
    show wpS _ _ _ _ _ _ (n6 κ (G0 arr4 lo (lo+n2) ((lo+n2 - lo) / 2)) pd mg none)
    generalize G0 arr4 lo (lo+n2) ((lo+n2 - lo) / 2)=arr5 at k5 s5 m5 z5
    refine d7 (fj (arr:=arr5) (lo:=lo) ?_ (by lia) (by lia) s5 fun n3 hn31 hn32 hs3 _=>i7 (h arr5 n3 (by lia) hn32 k5 hs3))
    intro x n R hn hnn r1 r2
    dsimp only
    refine d7 (aB hA m5 (by lia) (by lia) ?_)
    by_cases hlt:Kv rk arr5 (lo+n)<Kv rk arr5 (lo+n - 1)
    ·rw[decide_eq_true hlt];exact i7 (r1 hlt)
    ·rw[decide_eq_false hlt];exact i7 (r2 hlt)
 rw[if_neg hn]
 have k1:aV lo arr arr:=aV.refl lo arr
 have en:n=1:=by lia
 have d1:tF rk arr lo (n+1):=by
  refine tF.more (fun i j hi hij hj=>?_) hlt
  have:i=j:=by lia
  subst this;exact aL _
 refine d7 (cO (L1 ⟨rfl,?_⟩))
 refine d7 (Q1 (C8 (I:=fun x c st'=>∃arr2 neq,c=(none,x,neq)/\st'=n6 κ arr2 pd mg none/\aV lo arr arr2/\tF rk arr2 lo x/\neq+1<=x/\(∀i,lo+x - (neq+1)<=i->i<lo+x->Kv rk arr2 i=Kv rk arr2 (lo+x - 1)))
  (Q:=fun c st'=>∃arr2 n2 neq,c=(none,n2,neq)/\st'=n6 κ arr2 pd mg none/\aV lo arr arr2/\tF rk arr2 lo n2/\neq+1<=n2/\(∀i,lo+n2 - (neq+1)<=i->i<lo+n2->Kv rk arr2 i=Kv rk arr2 (lo+n2 - 1))/\n+1<=n2/\n2<=nrem) ?_ ?_ ⟨_,0,rfl,rfl,k1,d1,by lia,fun i hi hi2=>by congr 1;lia⟩) ?_)
 ·rintro x c st' hnx hx ⟨arr2,neq,rfl,rfl,k2,d2,q1,q2⟩
  have m2:∀x∈arr2.toList,M x:=fun x hx=>m x (k2.perm.mem_iff.mp hx)
  have z2:=k2.size
  dsimp only
  refine d7 (aB hA m2 (by lia) (by lia) ?_)
  by_cases hlt:Kv rk arr2 (lo+x)<Kv rk arr2 (lo+x - 1)
  ·rw[decide_eq_true hlt]
   dsimp only
   rw[if_pos rfl]
   by_cases hq:neq > 0
   ·rw[if_pos hq]
    refine d7 (D3 (i7 ⟨_,0,rfl,rfl,k2.trans (aV.mirror (by lia) (by lia)),?_,by lia,fun i hi hi2=>by congr 1;lia⟩))
    have eqv:=dm (rk:=rk) (a:=arr2) (i:=lo+x - (neq+1)) (j:=lo+x) (by lia) q2
    intro i j hi hij hj
    show Kv rk (G0 arr2 _ _ _) j<=Kv rk (G0 arr2 _ _ _) i
    rw[eqv,eqv]
    exact d2.more hlt i j hi hij (by lia)
   ·rw[if_neg hq]
    exact i7 ⟨arr2,0,rfl,rfl,k2,fun i j hi hij hj=>d2.more hlt i j hi hij (by lia),by lia,fun i hi hi2=>by congr 1;lia⟩
  ·rw[decide_eq_false hlt]
   dsimp only
   rw[if_neg (by decide)]
   refine d7 (aB hA m2 (by lia) (by lia) ?_)
   by_cases hgt:Kv rk arr2 (lo+x - 1)<Kv rk arr2 (lo+x)
   ·rw[decide_eq_true hgt]
    dsimp only
    rw[if_pos rfl]
    exact i7 ⟨arr2,x,neq,rfl,rfl,k2,d2,q1,q2,hnx,by lia⟩
   ·rw[decide_eq_false hgt]
    dsimp only
    rw[if_neg (by decide)]
    have heq:Kv rk arr2 (lo+x)=Kv rk arr2 (lo+x - 1):=by lia
    refine i7 ⟨arr2,neq+1,rfl,rfl,k2,fun i j hi hij hj=>?_,by lia,fun i hi hi2=>?_⟩
    ·exact d2.more' (by lia) i j hi hij (by lia)
    ·rw[show lo+(x+1) - 1=lo+x by lia,heq]
     by_cases hix:i=lo+x
     ·rw[hix,heq]
     ·exact q2 i (by lia) (by lia)
 ·rintro c st' ⟨arr2,neq,rfl,rfl,k2,d2,q1,q2⟩
  rw[show max (n+1) nrem=nrem by lia] at d2 q1 q2 ⊢
  exact ⟨arr2,nrem,neq,rfl,rfl,k2,d2,q1,q2,by lia,d9 _⟩
 ·rintro c st' ⟨arr2,n2,neq,rfl,rfl,k2,d2,q1,q2,hn2a,hn2b⟩
  have z2:=k2.size
  dsimp only
  by_cases hq:neq > 0
  ·rw[if_pos hq]
   refine d7 (D3 ?_)
   have eqv:=dm (rk:=rk) (a:=arr2) (i:=lo+n2 - (neq+1)) (j:=lo+n2) (by lia) q2
   have k4:aV lo arr (G0 arr2 (lo+n2 - (neq+1)) (lo+n2) ((lo+n2 - (lo+n2 - (neq+1))) / 2)):=k2.trans (aV.mirror (by lia) (by lia))
   have d4:tF rk (G0 arr2 (lo+n2 - (neq+1)) (lo+n2) ((lo+n2 - (lo+n2 - (neq+1))) / 2)) lo n2:=fun i j hi hij hj=>by rw[eqv,eqv];exact d2 i j hi hij hj
   show wpS _ _ _ _ _ _ (n6 κ (G0 arr2 (lo+n2 - (neq+1)) (lo+n2) ((lo+n2 - (lo+n2 - (neq+1))) / 2)) pd mg none)
   generalize G0 arr2 (lo+n2 - (neq+1)) (lo+n2) ((lo+n2 - (lo+n2 - (neq+1))) / 2)=arr4 at k4 d4
   refine d7 (D3 ?_)
   have k5:aV lo arr (G0 arr4 lo (lo+n2) ((lo+n2 - lo) / 2)):=k4.trans (aV.mirror (d9 _) (by rw[k4.size];lia))
   have s5:jx rk (G0 arr4 lo (lo+n2) ((lo+n2 - lo) / 2)) lo n2:=fun i j hi hij hj=>by
    rw[Kv.mirror (by rw[k4.size];lia),Kv.mirror (by rw[k4.size];lia),if_pos (by lia),if_pos (by lia)]
    exact d4 _ _ (by lia) (by lia) (by lia)
   have m5:∀x∈(G0 arr4 lo (lo+n2) ((lo+n2 - lo) / 2)).toList,M x:=fun x hx=>m x (k5.perm.mem_iff.mp hx)
   have z5:=k5.size
   show wpS _ _ _ _ _ _ (n6 κ (G0 arr4 lo (lo+n2) ((lo+n2 - lo) / 2)) pd mg none)
   generalize G0 arr4 lo (lo+n2) ((lo+n2 - lo) / 2)=arr5 at k5 s5 m5 z5
   refine d7 (fj (arr:=arr5) (lo:=lo) ?_ (by lia) (by lia) s5 fun n3 hn31 hn32 hs3 _=>i7 (h arr5 n3 (by lia) hn32 k5 hs3))
   intro x n R hn hnn r1 r2
   dsimp only
   refine d7 (aB hA m5 (by lia) (by lia) ?_)
   by_cases hlt:Kv rk arr5 (lo+n)<Kv rk arr5 (lo+n - 1)
   ·rw[decide_eq_true hlt];exact i7 (r1 hlt)
   ·rw[decide_eq_false hlt];exact i7 (r2 hlt)
  ·rw[if_neg hq]
   have k4:=k2
   have d4:=d2
   generalize arr2=arr4 at k4 d4
   refine d7 (D3 ?_)
   have k5:aV lo arr (G0 arr4 lo (lo+n2) ((lo+n2 - lo) / 2)):=k4.trans (aV.mirror (d9 _) (by rw[k4.size];lia))
   have s5:jx rk (G0 arr4 lo (lo+n2) ((lo+n2 - lo) / 2)) lo n2:=fun i j hi hij hj=>by
    rw[Kv.mirror (by rw[k4.size];lia),Kv.mirror (by rw[k4.size];lia),if_pos (by lia),if_pos (by lia)]
    exact d4 _ _ (by lia) (by lia) (by lia)
   have m5:∀x∈(G0 arr4 lo (lo+n2) ((lo+n2 - lo) / 2)).toList,M x:=fun x hx=>m x (k5.perm.mem_iff.mp hx)
   have z5:=k5.size
   show wpS _ _ _ _ _ _ (n6 κ (G0 arr4 lo (lo+n2) ((lo+n2 - lo) / 2)) pd mg none)
   generalize G0 arr4 lo (lo+n2) ((lo+n2 - lo) / 2)=arr5 at k5 s5 m5 z5
   refine d7 (fj (arr:=arr5) (lo:=lo) ?_ (by lia) (by lia) s5 fun n3 hn31 hn32 hs3 _=>i7 (h arr5 n3 (by lia) hn32 k5 hs3))
   intro x n R hn hnn r1 r2
   dsimp only
   refine d7 (aB hA m5 (by lia) (by lia) ?_)
   by_cases hlt:Kv rk arr5 (lo+n)<Kv rk arr5 (lo+n - 1)
   ·rw[decide_eq_true hlt];exact i7 (r1 hlt)
   ·rw[decide_eq_false hlt];exact i7 (r2 hlt)
end
theorem aV.bubble {lo src d:Nat}{a:Array i9} (hs:src<a.size) (hd:lo+d<=src):aV lo a (bubble a src d):=
 ⟨Array.perm_iff_toList_perm.mp (bubble_perm a src d),fun k hk=>by rw[getElem?_bubble hs d (by lia),if_neg (by lia),if_neg (by lia)]⟩
theorem Kv.bubble {rk:i9->Int}{a:Array i9}{src d:Nat} (hs:src<a.size) (hd:d<=src) (k:Nat):Kv rk (bubble a src d) k=if k=src - d then Kv rk a src else if src - d<k/\k<=src then Kv rk a (k - 1) else Kv rk a k:=by
 have e:=getElem?_bubble hs d hd k
 by_cases h1:k=src - d
 ·rw[if_pos h1] at e ⊢;exact Kv.congr e
 ·rw[if_neg h1] at e ⊢
  by_cases h2:src - d<k/\k<=src
  ·rw[if_pos h2] at e ⊢;exact Kv.congr e
  ·rw[if_neg h2] at e ⊢;exact Kv.congr e
section
variable {prog:f6}{w:j6}{A:r6}{E:b8->b9->Prop}{s:b9}{rk:i9->Int}{M:i9->Prop}{κ:aO}{pd:Array (Nat × Nat × Nat)}{mg:Nat}
theorem cV {arr:Array i9}{lo n ok:Nat}{Q:Bool->C9->Prop} (hA:sS prog w A s rk M κ) (m:∀x∈arr.toList,M x) (h1:1<=ok) (h2:ok<=n) (hN:lo+n<=arr.size) (hs:jx rk arr lo ok)
  (h:∀(arr':Array i9),aV lo arr arr'->jx rk arr' lo n->Q true (n6 κ arr' pd mg none)):wpS (n0 prog w) A E s (binarySort' lo n ok) Q (n6 κ arr pd mg none):=by
 refine d7 (Q1 (C8 (I:=fun k c st'=>c=(none,())/\∃arr2,st'=n6 κ arr2 pd mg none/\aV lo arr arr2/\jx rk arr2 lo k) (Q:=fun c st'=>c=(none,())/\∃arr2,st'=n6 κ arr2 pd mg none/\aV lo arr arr2/\jx rk arr2 lo n) ?_ ?_ ⟨rfl,arr,rfl,aV.refl lo arr,by rw[Ez h1];exact hs⟩) ?_)
 ·rintro k c st' hk1 hk2 ⟨rfl,arr2,rfl,k2,s2⟩
  have z2:=k2.size
  have m2:∀x∈arr2.toList,M x:=fun x hx=>m x (k2.perm.mem_iff.mp hx)
  rw[Ez h1] at hk1
  dsimp only
  refine d7 (Q1 (C8 (I:=fun x c st'=>st'=n6 κ arr2 pd mg none/\∃l r,c=(none,l,r)/\l<=r/\r<=k/\r - l<=k - x/\(∀i,i<l->Kv rk arr2 (lo+i)<=Kv rk arr2 (lo+k))/\(∀i,r<=i->i<k->Kv rk arr2 (lo+k)<=Kv rk arr2 (lo+i)))
   (Q:=fun c st'=>st'=n6 κ arr2 pd mg none/\∃l,c=(none,l,l)/\l<=k/\(∀i,i<l->Kv rk arr2 (lo+i)<=Kv rk arr2 (lo+k))/\(∀i,l<=i->i<k->Kv rk arr2 (lo+k)<=Kv rk arr2 (lo+i))) ?_ ?_ ⟨rfl,0,k,rfl,j5 _,d9 _,by lia,fun i hi=>by lia,fun i hi hi2=>by lia⟩) ?_)
  ·rintro x c st' _ hx ⟨rfl,l,r,rfl,a1,a2,a3,a4,a5⟩
   dsimp only
   by_cases hge:l ≥ r
   ·rw[if_pos hge]
    have e:l=r:=by lia
    subst e
    exact i7 ⟨rfl,l,rfl,a2,a4,a5⟩
   rw[if_neg hge]
   refine d7 (aB hA m2 (by lia) (by lia) ?_)
   by_cases hlt:Kv rk arr2 (lo+k)<Kv rk arr2 (lo+(l+r) / 2)
   ·rw[decide_eq_true hlt]
    refine i7 ⟨rfl,l,(l+r) / 2,rfl,by lia,by lia,by lia,a4,fun i hi hi2=>?_⟩
    exact B7 (S9 hlt) (s2 _ _ (by lia) (by lia) (by lia))
   ·rw[decide_eq_false hlt]
    refine i7 ⟨rfl,(l+r) / 2+1,r,rfl,by lia,a2,by lia,fun i hi=>?_,a5⟩
    exact B7 (s2 _ (lo+(l+r) / 2) (by lia) (by lia) (by lia)) (Int.not_lt.mp hlt)
  ·rintro c st' ⟨rfl,l,r,rfl,a1,a2,a3,a4,a5⟩
   have e:l=r:=by lia
   subst e
   exact ⟨rfl,l,rfl,a2,a4,a5⟩
  ·rintro c st' ⟨rfl,l,rfl,a2,a4,a5⟩
   dsimp only
   refine d7 (D3 (i7 ⟨rfl,_,rfl,k2.trans (aV.bubble (src:=lo+k) (d:=lo+k - (lo+l)) (by lia) (by lia)),?_⟩))
   intro i j hi hij hj
   show Kv rk (bubble arr2 (lo+k) (lo+k - (lo+l))) i<=Kv rk (bubble arr2 (lo+k) (lo+k - (lo+l))) j
   rw[Kv.bubble (by lia) (by lia),Kv.bubble (by lia) (by lia),show lo+k - (lo+k - (lo+l))=lo+l by lia]
   by_cases c1:i=lo+l
   ·rw[if_pos c1]
    by_cases c2:j=lo+l
    ·rw[if_pos c2];exact aL _
    ·rw[if_neg c2,if_pos (by lia)]
     have:=a5 (j - 1 - lo) (by lia) (by lia)
     rw[show lo+(j - 1 - lo)=j - 1 by lia] at this
     exact this
   ·rw[if_neg c1]
    by_cases c3:lo+l<i/\i<=lo+k
    ·rw[if_pos c3,if_neg (by lia),if_pos (by lia)]
     exact s2 _ _ (by lia) (by lia) (by lia)
    ·rw[if_neg c3]
     by_cases c2:j=lo+l
     ·rw[if_pos c2]
      have:=a4 (i - lo) (by lia)
      rw[show lo+(i - lo)=i by lia] at this
      exact this
     ·rw[if_neg c2]
      by_cases c4:lo+l<j/\j<=lo+k
      ·rw[if_pos c4]
       exact s2 _ _ hi (by lia) (by lia)
      ·rw[if_neg c4]
       exact s2 _ _ hi hij (by lia)
 ·rintro c st' ⟨rfl,arr2,rfl,k2,s2⟩
  rw[show max (max ok 1) n=n by lia] at s2
  exact ⟨rfl,arr2,rfl,k2,s2⟩
 ·rintro c st' ⟨rfl,arr2,rfl,k2,s2⟩
  exact i7 (h arr2 k2 s2)
end
theorem uB {N:Nat} (h1:64<=N) (h2:N<128):Hi N N 0=N / 2+N % 2:=by
 obtain ⟨f,hf⟩:∃f,N=f+2:=⟨N - 2,by lia⟩
 have:Hi (f+2) N 0=N / 2+N % 2:=by
  rw[Aw,if_neg (by lia),Aw,if_pos (by lia)]
  lia
 rw[<- hf] at this
 exact this
theorem oq {rk:i9->Int}{arr:Array i9}{n:Nat} (h:jx rk arr lo n) (hN:lo+n<=arr.size):Up rk ((arr.toList.drop lo).take n):=by
 refine List.pairwise_iff_getElem.mpr fun i j hi hj hij=>?_
 have hj':j<n:=by rw[m8] at hj;lia
 have e:∀k (hk:k<((arr.toList.drop lo).take n).length),rk (((arr.toList.drop lo).take n)[k])=Kv rk arr (lo+k):=fun k hk=>by
  have hk':k<n:=by rw[m8] at hk;lia
  have e1:((arr.toList.drop lo).take n)[k]?=arr[lo+k]?:=by rw[K6,if_pos hk',G6];simp
  unfold Kv
  rw[<- e1,d0 hk];rfl
 rw[e i hi,e j hj]
 exact h _ _ (by lia) (by lia) (by lia)
theorem jx.low {rk:i9->Int}{a b:Array i9}{lo n:Nat} (h:jx rk a 0 n) (k:aV lo a b) (hn:n<=lo):jx rk b 0 n:=fun i j hi hij hj=>by
 rw[Kv.congr (k.low i (by lia)),Kv.congr (k.low j (by lia))]
 exact h i j hi hij hj
theorem aV.weak {b:Array i9} (h:aV lo a b):aV 0 a b:=⟨h.perm,fun i hi=>absurd hi (Nat.not_lt_zero i)⟩
section
variable {prog:f6}{w:j6}{A:r6}{E:b8->b9->Prop}{s:b9}{rk:i9->Int}{M:i9->Prop}{κ:aO}
theorem qV {arr:Array i9}{Q:Unit->C9->Prop} (hA:sS prog w A s rk M κ) (m:∀x∈arr.toList,M x) (h64:64<=arr.size) (h128:arr.size<128)
  (h:∀st',(W0 st').toList.Perm arr.toList->Y3 st'=none->Up rk (W0 st').toList->Q () st'):wpS (n0 prog w) A E s HW Q (n6 κ arr #[] 7 none):=by
 rw[sortRuns'_eq]
 refine d7 (S2 ?_)
 dsimp only
 have hmr:=uB h64 h128
 obtain ⟨N,eN⟩:∃N,N=arr.size:=⟨_,rfl⟩
 obtain ⟨mr,emr⟩:∃mr,mr=N / 2+N % 2:=⟨_,rfl⟩
 rw[<- eN] at hmr h64 h128
 rw[<- emr] at hmr
 simp only[<- eN,hmr]
 refine d7 (Q1 (C8
  (I:=fun x c st'=>(x=0/\c=(none,0)/\st'=n6 κ arr #[] 7 none) ∨ (1<=x/\∃n arr2,c=(none,n)/\st'=n6 κ arr2 #[(0,n,0)] 7 none/\mr<=n/\n<=N/\aV 0 arr arr2/\jx rk arr2 0 n/\(n=N ∨ x=1)) ∨ (2<=x/\∃n pw arr2,c=(none,N)/\st'=n6 κ arr2 #[(0,n,pw),(n,N - n,0)] 7 none/\mr<=n/\n<N/\aV 0 arr arr2/\jx rk arr2 0 n/\jx rk arr2 n (N - n)))
  (Q:=fun c st'=>c.1=none/\((∃arr2,st'=n6 κ arr2 #[(0,N,0)] 7 none/\aV 0 arr arr2/\jx rk arr2 0 N) ∨ (∃n pw arr2,st'=n6 κ arr2 #[(0,n,pw),(n,N - n,0)] 7 none/\mr<=n/\n<N/\aV 0 arr arr2/\jx rk arr2 0 n/\jx rk arr2 n (N - n)))) ?_ ?_ (.inl ⟨rfl,rfl,rfl⟩)) ?_)
 ·rintro x c st' _ hx (⟨rfl,rfl,rfl⟩|⟨hx1,n,arr2,rfl,rfl,hn1,hn2,k2,s2,hnx⟩|⟨hx2,n,pw,arr2,rfl,rfl,hn1,hn2,k2,s2,s3⟩)
  ·dsimp only
   rw[if_neg (by lia)]
   simp only[kE,S6]
   refine d7 (fi hA m (by lia) (by lia) fun arr2 n hn1 hn2 k2 s2=>?_)
   have m2:∀x∈arr2.toList,M x:=fun x hx=>m x (k2.perm.mem_iff.mp hx)
   have z2:=k2.size
   dsimp only
   by_cases hlt:n<mr
   ·rw[if_pos hlt]
    refine d7 (cO (L1 ⟨rfl,?_⟩))
    refine d7 (cV hA m2 hn1 (by lia) (by lia) s2 fun arr3 k3 s3=>?_)
    simp only[iQ,N5,if_false]
    refine d7 (S2 ?_)
    have hb:(T4 (n6 κ arr3 #[] 7 none)).back?=none:=rfl
    rw[hb]
    dsimp only
    exact d7 (D3 (i7 (.inr (.inl ⟨by lia,min N mr,arr3,rfl,rfl,by lia,by lia,k2.trans k3,s3,.inr (by first|rfl|trivial)⟩))))
   ·rw[if_neg hlt]
    refine d7 (S2 ?_)
    have hb:(T4 (n6 κ arr2 #[] 7 none)).back?=none:=rfl
    rw[hb]
    dsimp only
    exact d7 (D3 (i7 (.inr (.inl ⟨by lia,n,arr2,rfl,rfl,by lia,hn2,k2,s2,.inr (by first|rfl|trivial)⟩))))
  ·dsimp only
   by_cases hnN:n ≥ N
   ·rw[if_pos hnN]
    have e:n=N:=by lia
    subst e
    exact i7 ⟨rfl,.inl ⟨arr2,rfl,k2,s2⟩⟩
   rw[if_neg hnN]
   have m2:∀x∈arr2.toList,M x:=fun x hx=>m x (k2.perm.mem_iff.mp hx)
   have z2:=k2.size
   refine d7 (fi hA m2 (by lia) (by lia) fun arr3 n3 hn31 hn32 k3 s3=>?_)
   have m3:∀x∈arr3.toList,M x:=fun x hx=>m2 x (k3.perm.mem_iff.mp hx)
   have z3:=k3.size
   dsimp only
   by_cases hlt:n3<mr
   ·rw[if_pos hlt]
    refine d7 (cO (L1 ⟨rfl,?_⟩))
    simp only[show min (N - n) mr=N - n by lia]
    refine d7 (cV hA m3 hn31 (by lia) (by lia) s3 fun arr4 k4 s4=>?_)
    simp only[iQ,N5,if_false]
    refine d7 (S2 ?_)
    have hb:(T4 (n6 κ arr4 #[(0,n,0)] 7 none)).back?=some (0,n,0):=rfl
    rw[hb]
    dsimp only
    refine d7 (Q1 (C8 (I:=fun _ c st'=>c=(none,())/\st'=n6 κ arr4 #[(0,n,0)] 7 none) (Q:=fun c st'=>c=(none,())/\st'=n6 κ arr4 #[(0,n,0)] 7 none) ?_ (fun _ _ z=>z) ⟨rfl,rfl⟩) ?_)
    ·rintro y c st' _ _ ⟨rfl,rfl⟩
     refine d7 (S2 ?_)
     have hp1:¬ (T4 (n6 κ arr4 #[(0,n,0)] 7 none)).size > 1:=by show ¬ (1:Nat) > 1;decide
     rw[if_neg hp1]
     exact i7 ⟨rfl,rfl⟩
    ·rintro c st' ⟨rfl,rfl⟩
     dsimp only
     refine d7 (D3 (d7 (D3 (i7 (.inr (.inr ⟨by lia,n,power' N (2*0+n) (2*0+n+n+(N - n)) N,arr4,?_,?_,hn1,by lia,k2.trans (aV.weak (k3.trans k4)),(s2.low k3 (d9 _)).low k4 (d9 _),s4⟩))))))
     ·first|rfl | (congr 1;lia)
     ·first|rfl | (congr 1;try simp;try lia)
   ·rw[if_neg hlt]
    have e3:n3=N - n:=by lia
    subst e3
    refine d7 (S2 ?_)
    have hb:(T4 (n6 κ arr3 #[(0,n,0)] 7 none)).back?=some (0,n,0):=rfl
    rw[hb]
    dsimp only
    refine d7 (Q1 (C8 (I:=fun _ c st'=>c=(none,())/\st'=n6 κ arr3 #[(0,n,0)] 7 none) (Q:=fun c st'=>c=(none,())/\st'=n6 κ arr3 #[(0,n,0)] 7 none) ?_ (fun _ _ z=>z) ⟨rfl,rfl⟩) ?_)
    ·rintro y c st' _ _ ⟨rfl,rfl⟩
     refine d7 (S2 ?_)
     have hp1:¬ (T4 (n6 κ arr3 #[(0,n,0)] 7 none)).size > 1:=by show ¬ (1:Nat) > 1;decide
     rw[if_neg hp1]
     exact i7 ⟨rfl,rfl⟩
    ·rintro c st' ⟨rfl,rfl⟩
     dsimp only
     refine d7 (D3 (d7 (D3 (i7 (.inr (.inr ⟨by lia,n,power' N (2*0+n) (2*0+n+n+(N - n)) N,arr3,?_,?_,hn1,by lia,k2.trans (aV.weak k3),s2.low k3 (d9 _),s3⟩))))))
     ·first|rfl | (congr 1;lia)
     ·first|rfl | (congr 1;try simp;try lia)
  ·dsimp only
   rw[if_pos (d9 _)]
   exact i7 ⟨rfl,.inr ⟨n,pw,arr2,rfl,hn1,hn2,k2,s2,s3⟩⟩
 ·rintro c st' (⟨hx,rfl,rfl⟩|⟨hx1,n,arr2,rfl,rfl,hn1,hn2,k2,s2,hnx⟩|⟨hx2,n,pw,arr2,rfl,rfl,hn1,hn2,k2,s2,s3⟩)
  ·lia
  ·have e:n=N:=by lia
   subst e
   exact ⟨rfl,.inl ⟨arr2,rfl,k2,s2⟩⟩
  ·exact ⟨rfl,.inr ⟨n,pw,arr2,rfl,hn1,hn2,k2,s2,s3⟩⟩
 ·rintro ⟨c1,c2⟩ st' ⟨hc,hst⟩
  dsimp only at hc
  subst hc
  dsimp only
  refine d7 (Q1 (C8 (I:=fun x c st'=>c=(none,())/\((∃arr2 mg,st'=n6 κ arr2 #[(0,N,(T4 st').back?.elim 0 (·.2.2))] mg none/\arr2.toList.Perm arr.toList/\Up rk arr2.toList) ∨ (x=0/\∃n pw arr2,st'=n6 κ arr2 #[(0,n,pw),(n,N - n,0)] 7 none/\mr<=n/\n<N/\aV 0 arr arr2/\jx rk arr2 0 n/\jx rk arr2 n (N - n))))
   (Q:=fun c st'=>c=(none,())/\Y3 st'=none/\(W0 st').toList.Perm arr.toList/\Up rk (W0 st').toList) ?_ ?_ ?_) ?_)
  ·rintro x c st2 _ hx ⟨rfl,(⟨arr2,mg,e,hp,hu⟩|⟨rfl,n,pw,arr2,rfl,hn1,hn2,k2,s2,s3⟩)⟩
   ·generalize (T4 st2).back?.elim 0 (·.2.2)=pw at e
    subst e
    refine d7 (S2 ?_)
    rw[if_pos (by show (1:Nat)<=1;exact d9 1)]
    exact i7 ⟨rfl,rfl,hp,hu⟩
   ·have m2:∀x∈arr2.toList,M x:=fun x hx=>m x (k2.perm.mem_iff.mp hx)
    have z2:=k2.size
    refine d7 (S2 ?_)
    rw[if_neg (by show ¬ (2:Nat)<=1;decide)]
    have u1:Up rk (arr2.toList.take n):=by have:=oq s2 (by lia);rw[L7] at this;exact this
    have u2:Up rk (arr2.toList.drop n):=by
     have:=oq s3 (by lia)
     rw[C1 (by rw[A6,A8];lia)] at this
     exact this
    refine d7 (uE hA m2 (by lia) (by lia) (by lia) u1 u2 fun arr' mg' hp hu=>?_)
    simp only[iQ,N5,if_false]
    refine i7 ⟨rfl,.inl ⟨arr',mg',?_,hp.trans k2.perm,hu⟩⟩
    rw[show n+(N - n)=N by lia]
    rfl
  ·rintro c st2 ⟨rfl,(⟨arr2,mg,e,hp,hu⟩|⟨hx,_⟩)⟩
   ·generalize (T4 st2).back?.elim 0 (·.2.2)=pw at e
    subst e
    exact ⟨rfl,rfl,hp,hu⟩
   ·lia
  ·refine ⟨rfl,?_⟩
   rcases hst with ⟨arr2,rfl,k2,s2⟩|⟨n,pw,arr2,rfl,r⟩
   ·refine .inl ⟨arr2,7,rfl,k2.perm,?_⟩
    have z2:=k2.size
    have:=oq s2 (by lia)
    rw[L7,C1 (by rw[A8];lia)] at this
    exact this
   ·exact .inr ⟨rfl,n,pw,arr2,rfl,r⟩
  ·rintro c st2 ⟨rfl,hf,hp,hu⟩
   exact i7 (h st2 hp hf hu)
end
end So
namespace So
open PySem PyProof.Rows PySem.Spec L2
section
variable {prog:f6}{w:j6}{A:r6}{E:b8->b9->Prop}{s:b9}{rk:i9->Int}{M:i9->Prop}{κ:aO}
theorem eI {arr:Array i9}{Q:Unit->C9->Prop} (hA:sS prog w A s rk M κ) (m:∀x∈arr.toList,M x) (h2:2<=arr.size) (h64:arr.size<64)
  (h:∀st',(W0 st').toList.Perm arr.toList->Y3 st'=none->Up rk (W0 st').toList->Q () st'):wpS (n0 prog w) A E s HW Q (n6 κ arr #[] 7 none):=by
 rw[sortRuns'_eq]
 refine d7 (S2 ?_)
 dsimp only
 obtain ⟨N,eN⟩:∃N,N=arr.size:=⟨_,rfl⟩
 have hmr:Hi N N 0=N:=by
  obtain ⟨f,hf⟩:∃f,N=f+1:=⟨N - 1,by lia⟩
  have:Hi (f+1) N 0=N:=by rw[Aw,if_pos (by lia)];rfl
  rw[<- hf] at this
  exact this
 simp only[<- eN,hmr]
 refine d7 (Q1 (C8
  (I:=fun x c st'=>(x=0/\c=(none,0)/\st'=n6 κ arr #[] 7 none) ∨ (1<=x/\∃arr2,c=(none,N)/\st'=n6 κ arr2 #[(0,N,0)] 7 none/\aV 0 arr arr2/\jx rk arr2 0 N))
  (Q:=fun c st'=>c.1=none/\∃arr2,st'=n6 κ arr2 #[(0,N,0)] 7 none/\aV 0 arr arr2/\jx rk arr2 0 N) ?_ ?_ (.inl ⟨rfl,rfl,rfl⟩)) ?_)
 ·rintro x c st' _ hx (⟨rfl,rfl,rfl⟩|⟨hx1,arr2,rfl,rfl,k2,s2⟩)
  ·dsimp only
   rw[if_neg (by lia)]
   simp only[kE,S6,Ie]
   refine d7 (fi hA m (by lia) (by lia) fun arr2 n hn1 hn2 k2 s2=>?_)
   have m2:∀x∈arr2.toList,M x:=fun x hx=>m x (k2.perm.mem_iff.mp hx)
   have z2:=k2.size
   dsimp only
   by_cases hlt:n<N
   ·rw[if_pos hlt]
    refine d7 (cO (L1 ⟨rfl,?_⟩))
    refine d7 (cV hA m2 hn1 (by lia) (by lia) s2 fun arr3 k3 s3=>?_)
    simp only[iQ,N5,if_false]
    refine d7 (S2 ?_)
    have hb:(T4 (n6 κ arr3 #[] 7 none)).back?=none:=rfl
    rw[hb]
    dsimp only
    exact d7 (D3 (i7 (.inr ⟨by lia,arr3,rfl,rfl,k2.trans k3,s3⟩)))
   ·rw[if_neg hlt]
    have e:n=N:=by lia
    subst e
    refine d7 (S2 ?_)
    have hb:(T4 (n6 κ arr2 #[] 7 none)).back?=none:=rfl
    rw[hb]
    dsimp only
    exact d7 (D3 (i7 (.inr ⟨by lia,arr2,rfl,rfl,k2,s2⟩)))
  ·dsimp only
   rw[if_pos (d9 _)]
   exact i7 ⟨rfl,arr2,rfl,k2,s2⟩
 ·rintro c st' (⟨hx,rfl,rfl⟩|⟨hx1,arr2,rfl,rfl,k2,s2⟩)
  ·lia
  ·exact ⟨rfl,arr2,rfl,k2,s2⟩
 ·rintro ⟨c1,c2⟩ st' ⟨hc,arr2,rfl,k2,s2⟩
  dsimp only at hc
  subst hc
  dsimp only
  refine d7 (Q1 (C8 (I:=fun _ c st'=>c=(none,())/\st'=n6 κ arr2 #[(0,N,0)] 7 none) (Q:=fun c st'=>c=(none,())/\st'=n6 κ arr2 #[(0,N,0)] 7 none) ?_ (fun _ _ z=>z) ⟨rfl,rfl⟩) ?_)
  ·rintro x c st' _ _ ⟨rfl,rfl⟩
   refine d7 (S2 ?_)
   rw[if_pos (by show (1:Nat)<=1;exact d9 1)]
   exact i7 ⟨rfl,rfl⟩
  ·rintro c st' ⟨rfl,rfl⟩
   have z2:=k2.size
   refine i7 (h _ k2.perm rfl ?_)
   have:=oq s2 (by lia)
   rw[L7,C1 (by rw[A8];lia)] at this
   exact this
theorem ow {arr:Array i9}{Q:Unit->C9->Prop} (hA:sS prog w A s rk M κ) (m:∀x∈arr.toList,M x) (h2:2<=arr.size) (h128:arr.size<128)
  (h:∀st',(W0 st').toList.Perm arr.toList->Y3 st'=none->Up rk (W0 st').toList->Q () st'):wpS (n0 prog w) A E s HW Q (n6 κ arr #[] 7 none):=by
 by_cases h64:arr.size<64
 ·exact eI hA m h2 h64 h
 ·exact qV hA m (by lia) h128 h
theorem wW {rv:b8->Int}{B:Addr}{vs:List b8}{c:Nat}{P:PySem.Fin->b9->Prop} (hB:s.heap.get? B=some (O8 "list" vs.toArray c)) (h128:vs.length<128)
  (hk:2<=vs.length->∀h1,(∀b o,b≠B->s.heap.get? b=some o->h1.get? b=some o) ->
   i5 (n0 prog w) A (keyKind' vs.toArray) (fun κ s'=>s'={ s with heap:=h1 }/\sS prog w A { s with heap:=h1 } (fun x=>rv x.1) (fun x=>x.1∈vs) κ) (fun _ _=>False) { s with heap:=h1 })
  (hP:∀h' vs' c',vs'.Perm vs->vs'.Pairwise (fun x y=>rv x<=rv y)->(∀b o,b≠B->s.heap.get? b=some o->h'.get? b=some o)->h'.get? B=some (O8 "list" (N8 vs') c')->P (.done (.ret .none)) { s with heap:=h' }):i5 (n0 prog w) A (Z3.«list.sort» ⟨[.ref B],[]⟩) P E s:=by
 obtain ⟨e1,hB1⟩:∃e1,(s.heap.update B (Q9 fun _=>(#[]:Array b8))).get? B=some (O8 "list" #[] e1):=⟨_,iH hB fun _=>#[]⟩
 have b1:=G7 s.heap B (Q9 fun _=>(#[]:Array b8))
 obtain ⟨h3,eh3⟩:∃h3,h3=((s.heap.update B (Q9 fun _=>(#[]:Array b8))).push (O8 "tuple" vs.toArray 0)).push (O8 "list" #[] 0):=⟨_,rfl⟩
 have hB3:h3.get? B=some (O8 "list" #[] e1):=by rw[eh3];exact d6 _ (d6 _ hB1)
 have k3:∀b o,b≠B->s.heap.get? b=some o->h3.get? b=some o:=fun b o hb q=>by rw[eh3];exact d6 _ (d6 _ (b1.extBut b o hb q))
 rw[list_sort_plain]
 refine b5 (listItems_at hB rfl (b5 (lT hB rfl ?_ (by rw[j0,K3];lia) (j5 _))))
 refine b5 (sV hB1 rfl (b5 (eh ?_ (by show vs.length<=_;rw[K3];lia))))
 refine b5 (lR (M7 ?_) (j5 _))
 show i5 (n0 prog w) A _ P E { s with heap:=((s.heap.update B (Q9 fun _=>(#[]:Array b8))).push (O8 "tuple" vs.toArray 0)).push (O8 "list" #[] 0) }
 rw[<- eh3]
 dsimp only
 have fin:∀(st:C9) (out:List b8),(W0 st).map (·.2)=N8 out->out.length=vs.length->Y3 st=none->out.Perm vs->out.Pairwise (fun x y=>rv x<=rv y) ->
   i5 (n0 prog w) A (do
    let sorted:=(W0 st).map (·.2)
    let touched:=(<- seqEpoch B) != e1
    kG (.ref B) fun _=>sorted
    if let some e:=Y3 st then rule "list.sort.comparison-raised";throw e
    if touched then rule "list.sort.modified";raiseError "ValueError" "list modified during sort"
    ret .none) P E { s with heap:=h3 }:=fun st out ho hl hf hp hu=>by
  rw[ho]
  have sz:(N8 out).size<=i8:=by rw[j0,hl,K3];lia
  obtain ⟨c2,hc2⟩:∃c2,(h3.update B (Q9 fun _=>N8 out)).get? B=some (O8 "list" (N8 out) c2):=⟨_,iH hB3 fun _=>N8 out⟩
  refine b5 (sV hB3 rfl (b5 (lT hB3 rfl ?_ (j5 _) (f9 sz (Y6 _)))))
  rw[hf]
  simp only[bne_self_eq_false,N5,if_false]
  exact d5 (hP _ out c2 hp hu (fun b o hb q=>(G7 h3 B _).extBut b o hb (k3 b o hb q)) hc2)
 by_cases h2:2<=vs.length
 ·have hn2:¬ vs.toArray.size<2:=by rw[j0];lia
  rw[if_neg hn2,if_neg hn2]
  refine b5 (F9 (hk h2 h3 k3) (fun κ s0 hh=>?_) fun _ _ x=>x.elim)
  obtain ⟨rfl,ask⟩:=hh
  have ez:(vs.toArray.zip vs.toArray).toList=vs.map fun v=>(v,v):=by
   rw[AJ]
   show vs.zip vs=_
   clear hk hP hB h128 h2 hn2 ask fin hB1 b1 eh3 hB3 k3
   induction vs with
   | nil=>rfl
   | cons v vs ih=>rw[aH,ih];rfl
  refine b5 (F9 (ow (rk:=fun x=>rv x.1) (M:=fun x=>x.1∈vs) (s:={ s with heap:=h3 }) (Q:=fun _ st'=>(W0 st').toList.Perm (vs.map fun v=>(v,v))/\Y3 st'=none/\Up (fun x=>rv x.1) (W0 st').toList) ask (fun x hx=>?_) ?_ ?_ (fun st' a1 a2 a3=>⟨by rw[ez] at a1;exact a1,a2,a3⟩)) ?_ fun _ _ e=>e)
  ·rw[ez] at hx
   obtain ⟨v,hv,rfl⟩:=List.mem_map.mp hx
   exact hv
  ·have:=congrArg gG ez
   simp at this ⊢
   lia
  ·have:=congrArg gG ez
   simp at this ⊢
   lia
  rintro ⟨⟨⟩,st'⟩ s' ⟨rfl,hp,hf,hu⟩
  dsimp only at hp hf hu ⊢
  have twin:∀x∈(W0 st').toList,x.1=x.2:=fun x hx=>by
   obtain ⟨v,_,rfl⟩:=List.mem_map.mp (hp.mem_iff.mp hx)
   rfl
  have hp2:((W0 st').toList.map (·.2)).Perm vs:=by
   have:=hp.map (·.2)
   rw[B6] at this
   have e:vs.map ((fun x:i9=>x.2) ∘ fun v=>(v,v))=vs:=by
    have:((fun x:i9=>x.2) ∘ fun v=>(v,v))=id:=rfl
    rw[this,dF]
   rw[e] at this
   exact this
  refine fin st' ((W0 st').toList.map (·.2)) ?_ hp2.length_eq hf hp2 ?_
  ·apply Array.toList_inj.mp
   simp
  ·rw[L6]
   refine Q4 ?_ hu
   intro x y hx hy hxy
   rw[<- twin x hx,<- twin y hy]
   exact hxy
 ·have hn2:vs.toArray.size<2:=by rw[j0];lia
  rw[if_pos hn2,if_pos hn2]
  refine b5 (d5 (b5 ?_))
  rw[AB]
  refine d5 ?_
  refine fin _ vs (by
   show ((vs.toArray.zip vs.toArray).map (·.2))=vs.toArray
   apply Array.toList_inj.mp
   simp[Cb]) rfl rfl (X1 _) ?_
  match vs,h2 with
  | [],_=>exact U3
  | [v],_=>exact tJ _ _
  | a::b::l,h2=>exact absurd (by simp:2<=(a::b::l).length) h2
end
end So
namespace L2
open PySem PySem.Spec PyProof.Rows HT
theorem pO:∀a:List Int,E7 a a=false
 | []=>rfl
 | x::a=>by rw[P3,if_pos rfl];exact pO a
theorem pN:∀{a b:List Int},E7 a b=false->E7 b a=false->a=b
 | [],[],_,_=>rfl
 | [],_::_,h,_=>by rw[cy] at h;cases h
 | _::_,[],_,h=>by rw[cy] at h;cases h
 | x::a,y::b,h,k=>by
  rw[P3] at h k
  by_cases e:x=y
  ·rw[if_pos e] at h
   rw[if_pos e.symm] at k
   rw[e,pN h k]
  ·rw[if_neg e,decide_eq_false_iff_not] at h
   rw[if_neg fun z=>e z.symm,decide_eq_false_iff_not] at k
   lia
theorem jn:∀{a b c:List Int},E7 a b=true->E7 b c=true->E7 a c=true
 | [],[],[],h,_=>by cases h
 | [],_::_,[],_,k=>by rw[aC] at k;cases k
 | [],_,_::_,_,_=>rfl
 | x::a,[],_,h,_=>by rw[aC] at h;cases h
 | x::a,y::b,[],_,k=>by rw[aC] at k;cases k
 | x::a,y::b,z::c,h,k=>by
  rw[P3] at h k ⊢
  by_cases e1:x=y
  ·rw[if_pos e1] at h
   by_cases e2:y=z
   ·rw[if_pos e2] at k
    rw[if_pos (e1.trans e2)]
    exact jn h k
   ·rw[if_neg e2,decide_eq_true_iff] at k
    rw[if_neg (by lia),decide_eq_true_iff];lia
  ·rw[if_neg e1,decide_eq_true_iff] at h
   by_cases e2:y=z
   ·rw[if_neg (by lia),decide_eq_true_iff];lia
   ·rw[if_neg e2,decide_eq_true_iff] at k
    rw[if_neg (by lia),decide_eq_true_iff];lia
noncomputable def fN (ks:List (List Int)) (k:List Int):Nat:=ks.countP fun z=>E7 z k
theorem vF {ks:List (List Int)}{a b:List Int} (ha:a∈ks) (h:E7 a b=true):fN ks a<fN ks b:=by
 unfold fN
 have mono:∀l:List (List Int),l.countP (fun z=>E7 z a)<=l.countP (fun z=>E7 z b):=fun l=>List.countP_mono_left fun z _ hz=>jn hz h
 induction ks with
 | nil=>cases ha
 | cons z ks ih =>
  rw[Ce,Ce]
  rcases List.mem_cons.mp ha with e|e
  ·subst e
   rw[if_neg (by rw[pO];decide),if_pos h]
   have:=mono ks
   lia
  ·have:=ih e
   by_cases hz:E7 z a=true
   ·rw[if_pos hz,if_pos (jn hz h)];lia
   ·rw[if_neg hz]
    split <;> lia
theorem hG {ks:List (List Int)}{a b:List Int} (ha:a∈ks) (hb:b∈ks):decide ((fN ks a:Int)<(fN ks b:Int))=E7 a b:=by
 cases h:E7 a b with
 | true=>exact decide_eq_true (by have:=vF ha h;lia)
 | false =>
  refine decide_eq_false fun z=>?_
  cases h2:E7 b a with
  | true=>have:=vF hb h2;lia
  | false=>rw[pN h h2] at z;lia
section
variable {prog:f6}{w:j6}{A:r6}{E:b8->b9->Prop}{s:b9}
noncomputable def K0 (h:Heap) (v:b8) (ns:List Int):Prop:=∃(a:Addr) (us:List b8),v=.ref a/\wO h a us.toArray/\T8 us ns
theorem fw:∀{us:List b8}{ns:List Int}{j:Nat}{v:b8},T8 us ns->us[j]?=some v->∃t,v=ky (ns.getD j 0) t
 | _,_,0,v,.cons _ _ _,e=>by cases e;exact ⟨_,rfl⟩
 | _,_,j+1,v,.cons _ _ t,e=>by
  obtain ⟨t',h⟩:=fw (j:=j) t (by simpa using e)
  exact ⟨t',by rw[h];rfl⟩
theorem bT:∀{us:List b8}{ns:List Int},T8 us ns->us.length=ns.length
 | _,_,.nil=>rfl
 | _,_,.cons _ _ t=>by rw[p4,p4,bT t]
theorem wb:∀{us:List b8}{ns ms:List Int},T8 us ns->T8 us ms->ns=ms
 | _,_,_,.nil,.nil=>rfl
 | _,_,_,.cons _ _ t,.cons _ _ u=>by rw[wb t u]
theorem K0.eq {p q:b8}{ns ms:List Int} (h1:K0 s.heap p ns) (h2:K0 s.heap q ms) (hu:A.units<R8) (hne:ns≠ms):ya A s p q false:=by
 obtain ⟨a,us,rfl,⟨oa,ha,hca,na,hda⟩,i1⟩:=h1
 obtain ⟨b,vs,rfl,⟨ob,hb,hcb,nb,hdb⟩,i2⟩:=h2
 have l1:=bT i1
 have l2:=bT i2
 by_cases hab:a=b
 ·subst hab
  rw[ha] at hb
  cases hb
  rw[hda] at hdb
  injection hdb with e1 _
  have e2:us=vs:=by simpa using e1
  subst e2
  exact absurd (wb i1 i2) hne
 ·have:=sZ hab (tI (A:=A) (e:=fun j=>decide (ns.getD j 0=ms.getD j 0)) ⟨oa,ha,hca,na,hda⟩ ⟨ob,hb,hcb,nb,hdb⟩ hu fun j h1 h2=>by
   have h1':j<us.length:=by simpa using h1
   have h2':j<vs.length:=by simpa using h2
   obtain ⟨t,ex⟩:=fw i1 (d0 h1')
   obtain ⟨u,ey⟩:=fw i2 (d0 h2')
   have e1:us.toArray[j]=.int (ns.getD j 0) t:=by rw[cc];exact ex
   have e2:vs.toArray[j]=.int (ms.getD j 0) u:=by rw[cc];exact ey
   rw[e1,e2]
   have e3:decide (ns.getD j 0=ms.getD j 0)=(ns.getD j 0 == ms.getD j 0):=by rw[W9];simp
   rw[e3]
   exact bX _ t _ u)
  have e:((G5 (min us.toArray.size vs.toArray.size)).all (fun j=>decide (ns.getD j 0=ms.getD j 0))&&us.toArray.size == vs.toArray.size)=false:=by
   rw[Bool.eq_false_iff]
   intro z
   rw[u7,U2,beq_iff_eq,j0,j0] at z
   refine hne (List.ext_getElem (by lia) fun i h1 h2=>?_)
   have:=of_decide_eq_true (z.1 i (List.mem_range.mpr (by lia)))
   rw[t8,t8,d0 h1,d0 h2] at this
   exact this
  rw[e] at this
  exact this
theorem K0.lt {p q:b8}{ns ms:List Int} (h1:K0 s.heap p ns) (h2:K0 s.heap q ms) (hu:A.units<R8) {Q:b8->b9->Prop} (hq:Q (.bool (E7 ns ms)) s):i5 (n0 prog w) A (P5 .Lt p q) Q E s:=by
 obtain ⟨a,us,rfl,ta,i1⟩:=h1
 obtain ⟨b,vs,rfl,tb,i2⟩:=h2
 exact HT.uH ta tb i1 i2 hu hq
end
end L2
namespace Mq
open PySem PySem.Spec L2 Mt Md
noncomputable def jA (T:v5):Prop:=(T.map (·.1)).Pairwise (fun a b=>HT.E7 b a=false)
theorem dR:∀{T U:v5},jA T->jA U->bI T->T.Perm U->T=U
 | [],U,_,_,_,h=>by rw[h.nil_eq]
 | p::T,[],_,_,_,h=>by have:=h.length_eq;simp at this
 | p::T,q::U,hT,hU,hn,h=>by
  have hT':=List.pairwise_cons.mp (show (p.1::T.map (·.1)).Pairwise _ from hT)
  have hU':=List.pairwise_cons.mp (show (q.1::U.map (·.1)).Pairwise _ from hU)
  have hn':p.1 ∉ T.map (·.1)/\bI T:=by unfold bI at hn ⊢;rw[j8,K4] at hn;exact hn
  have e:p=q:=by
   have hp:p∈q::U:=h.mem_iff.mp f7
   have hq:q∈p::T:=h.mem_iff.mpr f7
   rcases List.mem_cons.mp hp with z|z
   ·exact z
   ·rcases List.mem_cons.mp hq with y|y
    ·exact y.symm
    ·have a1:=hU'.1 p.1 (List.mem_map.mpr ⟨p,z,rfl⟩)
     have a2:=hT'.1 q.1 (List.mem_map.mpr ⟨q,y,rfl⟩)
     have:=pN a1 a2
     exact absurd (List.mem_map.mpr ⟨q,y,this.symm⟩) hn'.1
  subst e
  rw[dR hT'.2 hU'.2 hn'.2 h.cons_inv]
theorem ij:∀{T:v5}{p:List Int × Rat},bI T->(p∈T ↔ p.1∈T.map (·.1)/\Y7 T p.1=p.2)
 | [],p,_=>by simp
 | q::T,p,h=>by
  have h1:q.1 ∉ T.map (·.1)/\bI T:=by unfold bI at h ⊢;rw[j8,K4] at h;exact h
  rw[y3,j8,y3]
  show _ ↔ _/\(if q.1=p.1 then q.2 else Y7 T p.1)=p.2
  by_cases e:q.1=p.1
  ·rw[if_pos e]
   constructor
   ·rintro (z|z)
    ·subst z;exact ⟨.inl rfl,rfl⟩
    ·exact absurd (List.mem_map.mpr ⟨p,z,e.symm⟩) h1.1
   ·rintro ⟨_,z⟩
    exact .inl (xJ e.symm z.symm)
  ·rw[if_neg e]
   constructor
   ·rintro (z|z)
    ·exact absurd (by rw[z]) e
    ·have:=(ij h1.2).mp z
     exact ⟨.inr this.1,this.2⟩
   ·rintro ⟨z|z,y⟩
    ·exact absurd z.symm e
    ·exact .inr ((ij h1.2).mpr ⟨z,y⟩)
theorem uy:∀{T:v5},bI T->T.Nodup
 | [],_=>EA
 | q::T,h=>by
  have h1:q.1 ∉ T.map (·.1)/\bI T:=by unfold bI at h ⊢;rw[j8,K4] at h;exact h
  exact List.nodup_cons.mpr ⟨fun z=>h1.1 (List.mem_map.mpr ⟨q,z,rfl⟩),uy h1.2⟩
theorem lB {α:Type} [DecidableEq α]:∀{l m:List α},l.Nodup->m.Nodup->(∀x,x∈l ↔ x∈m)->l.Perm m
 | [],m,_,_,h=>by
  cases m with
  | nil=>exact X1 _
  | cons a m=>exact absurd ((h a).mpr f7) (by simp)
 | a::l,m,hl,hm,h=>by
  have ha:a∈m:=(h a).mp f7
  have hl':=List.nodup_cons.mp hl
  have ih:=lB (l:=l) (m:=m.erase a) hl'.2 (hm.erase a) fun x=>by
   rw[List.Nodup.mem_erase_iff hm]
   constructor
   ·intro hx
    exact ⟨fun z=>hl'.1 (by rw[<- z];exact hx),(h x).mp (i3 _ hx)⟩
   ·rintro ⟨h1,h2⟩
    rcases List.mem_cons.mp ((h x).mpr h2) with z|z
    ·exact absurd z h1
    ·exact z
  exact (ih.cons a).trans (List.perm_cons_erase ha).symm
theorem rD {T U:v5} (hT:bI T) (hU:bI U) (hk:∀k,k∈T.map (·.1) ↔ k∈U.map (·.1)) (hv:∀k,Y7 T k=Y7 U k):T.Perm U :=
 lB (uy hT) (uy hU) fun p=>by rw[ij hT,ij hU,hk,hv]
set_option maxHeartbeats 1000000
structure Cn (u:List Int) (rs:List (List Int)) (n k:Nat) (c:List Int):Prop where
 len:c.length=n
 nn:∀x∈c,0<=x/\x<=(k:Int)
 urn:Y9 n (20+5*k) (qG u rs c)
noncomputable def cntD (n:Nat) (ds:List Nat):List Int:=(G5 n).map fun j=>((ds.count j:Nat):Int)
structure DrOk (u:List Int) (rs:List (List Int)) (n k:Nat) (e:List Nat × List Int × Rat):Prop where
 len:e.1.length=k
 lt:∀j∈e.1,j<n
 urn:e.2.1=qG u rs (cntD n e.1)
 ok:Y9 n (20+5*k) e.2.1
 vq:Vq (LL ^ k) 1 e.2.2
end Mq
namespace Mt
noncomputable def rp (s g:Int):Nat->Int
 | 0=>1
 | n+1=>rp s g n*(s+(n:Int)*g)
noncomputable abbrev fct (n:Nat):Int:=rp 1 1 n
noncomputable def tot:List Nat->Nat
 | []=>0
 | c::cs=>c+tot cs
noncomputable def Ge (a:Int):List Nat->Int
 | []=>a
 | c::cs=>Ge (a / fct c) cs
noncomputable def ordN (cs:List Nat):Int:=Ge (fct (tot cs)) cs
noncomputable def rps (g:Int):List Int->List Nat->Int
 | b::bs,c::cs=>rp b g c*rps g bs cs
 | _,_=>1
noncomputable def cch (ns:List Int) (g:Int) (cs:List Nat):Rat:=cut (ordN cs*rps g ns cs) (rp ns.sum g (tot cs))
noncomputable def bnow (g:Int) (ns:List Int) (cs:List Nat):List Int:=HD (fun b (c:Nat)=>b+g*(c:Int)) ns cs
end Mt
namespace Mq
open PySem PySem.Spec L2 Mt Md
noncomputable def GJ (c:List Nat) (j:Nat):List Nat:=c.set j (c.getD j 0 - 1)
noncomputable def parts (ns:List Int) (g:Int) (c:List Nat) (j:Nat):Rat:=if 0<c.getD j 0 then cch ns g (GJ c j)*Q0 (bnow g ns (GJ c j)) j else 0
theorem vW {D:v5}{k x:List Int}{r:Rat} (h:x=k ∨ x∈D.map (·.1)):x∈(U9 D k r).map (·.1):=by
 induction D with
 | nil =>
  rcases h with h|h
  ·rw[h];exact List.mem_singleton.mpr rfl
  ·cases h
 | cons p D ih =>
  unfold U9
  split
  ·rename_i e
   rcases h with h|h
   ·rw[h]
    exact List.mem_cons.mpr (.inl (by first|rfl|exact e.symm|exact e))
   ·rcases List.mem_cons.mp h with h|h
    ·exact List.mem_cons.mpr (.inl (by first|exact h | (rw[h];exact e) | (rw[h,e])))
    ·exact List.mem_cons.mpr (.inr h)
  ·rcases h with h|h
   ·exact List.mem_cons.mpr (.inr (ih (.inl h)))
   ·rcases List.mem_cons.mp h with h|h
    ·exact List.mem_cons.mpr (.inl h)
    ·exact List.mem_cons.mpr (.inr (ih (.inr h)))
end Mq
set_option maxHeartbeats 4000000
namespace Mq
open PySem PySem.Spec PyProof.Rows L2 Mt Md
structure Mor (n m N B L:Nat) (D:v5) (S:(List Int->Rat)->Rat) (ks:List Int->Prop):Prop where
 keys:GR n m D
 nd:bI D
 all:aF N B D
 len:D.length<=L
 lin:∀φ,M5 D φ=S φ
 mem:∀k,k∈D.map (·.1) ↔ ks k
noncomputable def ind (x:List Int):List Int->Rat:=fun k=>if k=x then 1 else 0
end Mq
namespace HP
open PySem L2
section
variable {P:f6}{w:j6}
noncomputable abbrev tK (P:f6) (w:j6):HeapKind P w (List V3):=fR (R6 P w)
noncomputable abbrev KP:=List V3 × List V3
noncomputable def gF (P:f6) (w:j6) (h:Heap) (k:KP) (a:Addr):Prop :=
 ∃o b c n,h.get? a=some o/\o.cls=.type "tuple"/\o.data=.seq #[.ref b,.ref c] n/\(tK P w).is h k.1 b/\(tK P w).is h k.2 c
variable {k:KP}{a:Addr}
theorem gF.ty {s:b9}(x:gF P w s.heap k a):s.TypeIs (.ref a) "tuple":=let ⟨o,_,_,_,ho,hc,_⟩:=x;⟨o,ho,hc⟩
variable {x y:KP}
theorem gF.one {h:Heap}(hx:gF P w h x a) (hy:gF P w h y a):x=y:=by
 obtain ⟨o,b,c,n,ho,_,hd,i1,i2⟩:=hx
 obtain ⟨o',b',c',n',ho',_,hd',j1,j2⟩:=hy
 rw[ho] at ho';cases ho'
 rw[hd] at hd'
 injection hd' with e _
 injection e with e
 injection e with e1 e
 injection e with e2 _
 injection e1 with e1
 injection e2 with e2
 subst e1 e2
 exact xJ ((tK P w).inj i1 j1) ((tK P w).inj i2 j2)
theorem gF.stay {h h':Heap}{d:Addr}{o:Obj}{es ep} (x:gF P w h k a) (ho:h.get? d=some o) (hd:o.data=.dict es ep) (hs:D0 d h h'):gF P w h' k a:=by
 obtain ⟨q,b,c,n,hq,hc,hqd,i1,i2⟩:=x
 refine ⟨q,b,c,n,(hs.2 a ?_).trans hq,hc,hqd,(tK P w).keeps i1 ho hd hs,(tK P w).keeps i2 ho hd hs⟩
 rintro rfl
 rw[ho] at hq;cases hq
 rw[hd] at hqd;cases hqd
noncomputable def uj (P:f6) (w:j6) (k:KP):Int:=EV (W7 [(tK P w).hash k.1,(tK P w).hash k.2])
variable {A:r6}{E:b8->b9->Prop}{s:b9}
theorem Bc {Q:Int->b9->Prop} (hu:A.units+1<R8) (hk:gF P w s.heap k a) (h:Q (uj P w k) { s with toks:=s.toks+(k.1.length+1+(k.2.length+1)+1) }):
  i5 (n0 P w) A (pyHash (.ref a)) Q E s:=by
 have hT:=hk.ty
 obtain ⟨o,b,c,n,ho,_,hd,i1,i2⟩:=hk
 unfold pyHash
 first|unfold pyHashByItsType|skip
 first|refine b5 (wpAny_cRoomFor_or (.inr (by lia)) ?_)|skip
 refine b5 (cX hT F.slot_tuple_hash.lookup ?_)
 dsimp only
 rw[if_neg (by rw[beq_builtin_none];exact n9)]
 refine b5 (cX hT F.slot_tuple_hash.lookup ?_)
 refine b5 (wpAny_callSpecialIfBoundUnlessNone?_slot hT ED (y6 ED hT F.entry_tuple_hash ?_ (F.args_tuple_hash_1 _)))
 change i5 _ A.in1 (tM (bE _) _) _ E s
 refine b5 (lZ ho hd ?_)
 refine b5 ?_
 rw[<- iR]
 simp only[W4,Y5]
 have hu1:A.in1.units<R8:=hu
 refine b5 (b5 ((tK P w).pyHash hu1 i1 (d5 ?_)))
 refine b5 (b5 ((tK P w).pyHash (s:={ s with toks:=s.toks+(k.1.length+1) }) hu1 i2 (d5 ?_)))
 refine d5 ?_
 dsimp only
 refine wpAny_ret_mkInt ?_
 have eq:({ s with toks:=s.toks+(k.1.length+1+(k.2.length+1)+1) }:b9)={ s with toks:=s.toks+(k.1.length+1)+(k.2.length+1)+1 }:=by
  congr 1;lia
 rw[eq] at h
 change i5 _ A (jB (W7 [(tK P w).hash k.1,(tK P w).hash k.2])) Q E { s with toks:=s.toks+(k.1.length+1)+(k.2.length+1)+1 }
 unfold uj at h
 generalize W7 [(tK P w).hash k.1,(tK P w).hash k.2]=z at h ⊢
 unfold EV at h
 unfold jB
 split
 ·rename_i hz
  rw[if_pos hz] at h
  exact d5 h
 ·rename_i hz
  rw[if_neg hz] at h
  exact b5 (L1 (d5 h))
theorem ui {b:Addr}{R:Fin->b9->Prop} (hu:A.units<R8) (hx:gF P w s.heap x a) (hy:gF P w s.heap y b) (h:R (.done (.ret (.bool (decide (x=y))))) s):
  i5 (n0 P w) A (Z3.«tuple.__eq__» ⟨[.ref a,.ref b],[]⟩) R E s:=by
 have hTb:=hy.ty
 obtain ⟨oa,p1,p2,na,hoa,_,hda,i1,i2⟩:=hx
 obtain ⟨ob,q1,q2,nb,hob,_,hdb,j1,j2⟩:=hy
 change i5 _ A (tM (EX (.ref b) (.type "tuple")) _) _ E s
 refine b5 (V6 hTb iK ?_)
 rw[if_neg (by decide)]
 refine b5 (lZ hoa hda (b5 (lZ hob hdb (b5 ?_))))
 simp only[aH,AD,W4,Y5]
 refine b5 (b5 ((tK P w).eqBool hu i1 j1 ?_))
 by_cases e1:x.1=y.1
 ·rw[decide_eq_true e1]
  rw[if_neg (by decide)]
  refine d5 (b5 (b5 ((tK P w).eqBool hu i2 j2 ?_)))
  by_cases e2:x.2=y.2
  ·rw[decide_eq_true e2,if_neg (by decide)]
   rw[decide_eq_true (xJ e1 e2)] at h
   exact d5 (d5 (d5 h))
  ·rw[decide_eq_false e2,if_pos (by decide)]
   rw[decide_eq_false (fun e=>e2 (by rw[e]))] at h
   exact b5 (d5 (d5 (d5 (d5 h))))
 ·rw[decide_eq_false e1,if_pos (by decide)]
  rw[decide_eq_false (fun e=>e1 (by rw[e]))] at h
  exact b5 (d5 (d5 (d5 (d5 h))))
variable {Q:Bool->b9->Prop}
theorem Gc {b:Addr}(hu:A.units+1<R8) (hx:gF P w s.heap x a) (hy:gF P w s.heap y b) (h:Q (decide (x=y)) s):
  i5 (n0 P w) A (eqBool (.ref a) (.ref b)) Q E s:=by
 unfold eqBool
 try with_reducible refine M7 ?_
 change i5 _ _ (if (j3 a == j3 b)=true then _ else _) Q E s
 by_cases hab:(j3 a == j3 b)=true
 ·rw[if_pos hab]
  have e:=eq_of_beq hab
  injection e with e
  subst e
  cases hx.one hy
  rw[decide_eq_true rfl] at h
  exact b5 (L1 (d5 h))
 ·rw[if_neg hab]
  exact b5 (wpAny_richCompare_same_room (op:=.Eq) hx.ty hy.ty HG
   (y6 HG hx.ty F.entry_tuple_eq (ui (show A.in1.units<R8 from hu) hx hy ⟨_,rfl,(fun e=>nomatch e),P4 h⟩) (F.args_tuple_eq_2 _ _)) (by lia))
theorem qR {n:Nat}{k:List V3}(hk:(tK P w).is s.heap k a) (h:Q true s):i5 (n0 P w) A (Ae (n+1) (.ref a)) Q E s:=by
 have hT:s.TypeIs (.ref a) "tuple":=IsTupleKey.typeIs hk
 obtain ⟨o,its,m,ho,_,hd,hi⟩:=hk
 unfold Ae
 refine b5 (cX hT F.slot_tuple_eq.lookup ?_)
 change i5 _ A (tM (EX (.ref a) (.type "tuple")) _) _ E s
 refine b5 (V6 hT iK ?_)
 rw[if_neg (by decide)]
 refine b5 (S0 ho hd (b5 ?_))
 change i5 _ A (forIn its _ _) _ E s
 rw[<- iR]
 refine HS _ (fun l r s1=>s1=s/\r.1=none/\∀v∈l,carriedByValue v=true) _ ?_ ?_ _ _ ⟨rfl,rfl,hi.byValue⟩
 ·rintro v l r s1 ⟨rfl,hr,al⟩
  rw[eqIsQuiet_byValue _ (al v (.head _))]
  refine b5 (d5 ?_)
  rw[if_neg (by decide)]
  exact d5 ⟨rfl,rfl,fun v hv=>al v (.tail _ hv)⟩
 ·rintro ⟨r,_⟩ s1 ⟨rfl,hr,_⟩
  cases hr
  exact d5 h
theorem yP (hk:gF P w s.heap k a) (h:Q true s):i5 (n0 P w) A (Ae 8 (.ref a)) Q E s:=by
 have hT:=hk.ty
 obtain ⟨o,b,c,n,ho,_,hd,i1,i2⟩:=hk
 unfold Ae
 refine b5 (cX hT F.slot_tuple_eq.lookup ?_)
 change i5 _ A (tM (EX (.ref a) (.type "tuple")) _) _ E s
 refine b5 (V6 hT iK ?_)
 rw[if_neg (by decide)]
 refine b5 (S0 ho hd (b5 ?_))
 change i5 _ A (forIn #[j3 b,j3 c] _ _) _ E s
 rw[<- iR]
 simp only[W4,Y5]
 refine b5 (b5 (qR i1 ?_))
 rw[if_neg (by decide)]
 refine d5 (b5 (b5 (qR i2 ?_)))
 rw[if_neg (by decide)]
 exact d5 (d5 (d5 h))
noncomputable def pK (P:f6) (w:j6):HeapKind P w KP where
 is:=gF P w
 hash:=uj P w
 draws:=fun k=>k.1.length+1+(k.2.length+1)+1
 room:=fun A=>A.units+1<R8
 inj:=fun hx hy=>hx.one hy
 keeps:=fun x ho hd hs=>x.stay ho hd hs
 pyHash:=fun hu hk h=>Bc hu hk h
 eqBool:=fun hu hx hy h=>Gc hu hx hy h
 quiet:=fun hk h=>yP hk h
end
end HP
namespace L2
open PySem PySem.Spec PyProof.Rows HP
noncomputable abbrev PX:=List (KP × Addr × Addr)
noncomputable def fF (xs:PX):List (KP × Addr × b8):=xs.map fun x=>(x.1,x.2.1,.ref x.2.2)
noncomputable def G2 (P:f6) (w:j6) (a:Addr) (xs:PX):HO:=.ext fun h =>
 xs.length<=i8/\(a == K1)=false/\∃o es ep,h.get? a=some o/\o.ExactDict/\o.data=.dict es ep/\es.toList=(fF xs).map (EY (pK P w))/\(xs.map (·.1)).Nodup
noncomputable def tE (H:Hp) (k:KP) (b:Addr):Prop:=∃c d,H b=some (.tup [.ref c,.ref d])/\H c=some (.tup (k.1.map kV))/\H d=some (.tup (k.2.map kV))
noncomputable abbrev EN (H:Hp) (xs:PX):Prop:=∀x∈xs,tE H x.1 x.2.1
theorem tE.keep {H H':Hp}{k:KP}{b:Addr} (h:tE H k b) (t:∀c ys,H c=some (.tup ys)->H' c=some (.tup ys)):tE H' k b:=let ⟨c,d,h1,h2,h3⟩:=h;⟨c,d,t _ _ h1,t _ _ h2,t _ _ h3⟩
noncomputable def wC (xs:PX) (k:KP):Option Addr:=(xs.find? fun x=>decide (x.1=k)).map (·.2.2)
noncomputable def oz (k:KP) (v:Addr) (x:KP × Addr × Addr):KP × Addr × Addr:=if x.1=k then (x.1,x.2.1,v) else x
noncomputable def ug (xs:PX) (k:KP) (b v:Addr):PX:=if (wC xs k).isSome then xs.map (oz k v) else xs++[(k,b,v)]
theorem lp (xs:PX):(fF xs).length=xs.length:=b7 ..
theorem mZ (xs:PX):(fF xs).map (·.1)=xs.map (·.1):=by unfold fF;rw[B6];rfl
theorem oP (xs:PX) (k:KP):(lV (fF xs) k).map (·.2)=(wC xs k).map j3:=by
 unfold lV wC fF
 rw[List.find?_map]
 have e:((fun x:KP × Addr × b8=>decide (x.1=k)) ∘ fun x:KP × Addr × Addr=>(x.1,x.2.1,j3 x.2.2))=fun x:KP × Addr × Addr=>decide (x.1=k):=rfl
 rw[e]
 cases xs.find? fun x:KP × Addr × Addr=>decide (x.1=k) <;> rfl
theorem rA (xs:PX) (k:KP) (b v:Addr):Hh (fF xs) k b (.ref v)=fF (ug xs k b v):=by
 have e:(lV (fF xs) k).isSome=(wC xs k).isSome:=by
  have:=oP xs k
  have h:=congrArg Option.isSome this
  rw[jD,jD] at h
  exact h
 unfold Hh ug
 rw[e]
 split
 ·unfold fF
  rw[B6,B6]
  refine P1 fun x _=>?_
  show putAt k (.ref v) (x.1,x.2.1,.ref x.2.2)=((oz k v x).1,(oz k v x).2.1,.ref (oz k v x).2.2)
  unfold putAt oz
  dsimp only
  split <;> rfl
 ·unfold fF
  rw[j7];rfl
theorem yM (xs:PX) (k:KP) (b v:Addr):(ug xs k b v).length<=xs.length+1:=by
 unfold ug
 split
 ·rw[b7];exact Y6 _
 ·rw[n8];exact d9 _
section
variable {P:f6}{w:j6}{H:Hp}{h:Heap}{a:Addr}{xs:PX}
theorem hJ {k:KP}{b:Addr} (ok:cW P w H h) (e:tE H k b):(pK P w).is h k b:=by
 obtain ⟨c,d,h1,h2,h3⟩:=e
 obtain ⟨_,its,r,o,g1,g2,n,g3⟩:=(show J8 P w H h b (.tup [.ref c,.ref d]) from ok b _ h1)
 cases r with
 | cons r1 rr =>
  cases rr with
  | cons r2 rr =>
   cases rr
   cases r1
   cases r2
   exact ⟨o,c,d,n,g1,g2,g3,jq ok h2,jq ok h3⟩
theorem pY (z:xs.length<=i8) (hs:(a == K1)=false) (hd:h.DictOfH (pK P w) a (fF xs)):J8 P w H h a (G2 P w a xs):=by
 obtain ⟨o,es,ep,h1,h2,h3,h4,_,h5⟩:=hd
 rw[mZ] at h5
 refine ⟨⟨z,hs,o,es,ep,h1,h2,h3,h4,h5⟩,⟨o,h1⟩,fun g1 g2 p k=>?_⟩
 obtain ⟨z,hs,o,es,ep,h1,h2,h3,h4,h5⟩:=p
 exact ⟨z,hs,o,es,ep,k _ h1,h2,h3,h4,h5⟩
theorem ko (ok:cW P w H h) (e:Rd H a (G2 P w a xs)) (hk:EN H xs):xs.length<=i8/\(a == K1)=false/\h.DictOfH (pK P w) a (fF xs):=by
 obtain ⟨⟨z,hs,o,es,ep,h1,h2,h3,h4,h5⟩,_,_⟩:=(show J8 P w H h a (G2 P w a xs) from vD ok e)
 refine ⟨z,hs,o,es,ep,h1,h2,h3,h4,fun x hx=>?_,by rw[mZ];exact h5⟩
 obtain ⟨y,hy,rfl⟩:=List.mem_map.mp hx
 exact hJ ok (hk y hy)
end
section
variable {X:Cx}{o e f:Expr}{apos cpos pos:Pos}{td ty tx tv:TE}
noncomputable def CT (P:f6) (w:j6) (td ty tx:TE):TE:=fun σ H Q=>td σ H fun x H1=>∃a ys,x=.ref a/\Rd H1 a (G2 P w a ys)/\ty σ H1 fun y H2=>tx σ H2 fun z H3=>∃xs k b,Rd H3 a (G2 P w a xs)/\EN H3 xs/\y=.ref b/\tE H3 k b/\Q ((wC xs k).elim z V.ref) H3
theorem rG (hu:X.A.units+2<R8) (ho:PE X o td) (he:PE X e ty) (hf:PE X f tx) (m:M2 X o "get" apos e f cpos):PE X (.Call (.Attribute o "get" apos) [e,f] [] cpos) (CT X.prog X.w td ty tx):=by
 intro pins s σ H Q I h
 refine He m.base m.few m.line dC W1 tf (R4 (ho pins s σ H _ I h) fun u s1 ⟨x,H1,I1,rx,a,ys,ex,d,q1⟩=>?_)
 subst ex
 obtain rfl:u=j3 a:=rx
 obtain ⟨⟨_,_,ob,_,_,g1,g2,_⟩,_,_⟩:=(show J8 X.prog X.w H1 s1.heap a (G2 X.prog X.w a ys) from vD I1.hok d)
 refine ⟨⟨ob,g1,g2.1⟩,fun b q=>by cases q;exact ⟨ob,g1,g2.2.1⟩,?_⟩
 rw[m.trees]
 refine eC rfl (fV (au (R4 (he pins s1 σ H1 _ I1 q1) fun iv s2 ⟨y,H2,I2,ry,q2⟩ =>
  au (R4 (hf pins s2 σ H2 _ I2 q2) fun fv s3 ⟨z,H3,I3,rz,xs,k,b,e3,hk,ey,kb,q3⟩=>jQ ?_))))
 subst ey
 obtain rfl:iv=j3 b:=ry
 obtain ⟨_,hd,dd⟩:=ko I3.hok e3 hk
 refine nS W1 dd.typeIs ej (dE _ _ _) (Ad (pK X.prog X.w) a b hd fv) ⟨hu,k,fF xs,hJ I3.hok kb,dd,_,H3,I3.tok _,?_,q3⟩
 rw[oP]
 cases wC xs k with
 | none=>exact rz
 | some v=>rfl
noncomputable def Ck (P:f6) (w:j6) (td ty:TE):TE:=fun σ H Q=>td σ H fun x H1=>ty σ H1 fun y H2=>∃a xs k b v,x=.ref a/\Rd H2 a (G2 P w a xs)/\EN H2 xs/\y=.ref b/\tE H2 k b/\wC xs k=some v/\Q (.ref v) H2
theorem Bg (hu:X.A.units+2<R8) (ho:PE X o td) (hi:PE X e ty) (hs:BU e):PE X (.Subscript o e pos) (Ck X.prog X.w td ty):=by
 intro pins s σ H Q I h
 refine vp PySem.F.slot_dict_getitem.lookup hs (R4 (ho pins s σ H _ I h) fun u s1 ⟨x,H1,I1,rx,q1⟩=>R4 (hi pins s1 σ H1 _ I1 q1) fun iv s2 ⟨y,H2,I2,ry,a,xs,k,b,v,ex,e,hk,ey,kb,hv,q2⟩=>?_)
 subst ex ey
 obtain rfl:u=j3 a:=rx
 obtain rfl:iv=j3 b:=ry
 obtain ⟨_,hd,dd⟩:=ko I2.hok e hk
 have ha:=oP xs k
 rw[hv] at ha
 obtain ⟨p,hp,hp2⟩:=Option.map_eq_some_iff.mp ha
 exact ⟨dd.typeIs,ES (knd:=pK X.prog X.w) hu (hJ I2.hok kb) dd hp ⟨.ref v,H2,I2.tok _,hp2,q2⟩⟩
noncomputable def FQ (P:f6) (w:j6) (td ty tv:TE):TS:=fun D σ H=>tv σ H fun v H1=>td σ H1 fun x H2=>ty σ H2 fun y H3=>∃a xs k b q,x=.ref a/\v=.ref q/\y=.ref b/\H3 a=some (G2 P w a xs)/\EN H3 xs/\tE H3 k b/\xs.length<i8/\D.nx σ (v8 H3 a (G2 P w a (ug xs k b q)))
theorem vH {pos':Pos}{value:Expr} (hu:X.A.units+2<R8) (ho:PE X o td) (hi:PE X e ty) (hv:PE X value tv) (hs:qI value (some (.Subscript o e pos')) pos.line X.env=pure false):
  PS X (.Assign [.Subscript o e pos'] value pos) (FQ X.prog X.w td ty tv):=by
 intro pins s σ H D I h
 refine Aq (R4 (hv pins s σ H _ I h) fun r s1 ⟨v,H1,I1,rv,q1⟩=>R4 (ho pins s1 σ H1 _ I1 q1) fun u s2 ⟨x,H2,I2,rx,q2⟩=>R4 (hi pins s2 σ H2 _ I2 q2) fun iv s3 ⟨y,H3,I3,ry,a,xs,k,b,q,ex,ev,ey,e,hk,kb,hl,q3⟩=>?_) hs
 subst ex ey ev
 obtain rfl:u=j3 a:=rx
 obtain rfl:iv=j3 b:=ry
 obtain rfl:r=j3 q:=rv
 obtain ⟨hz,hd,dd⟩:=ko I3.hok (.inl e) hk
 refine ER (knd:=pK X.prog X.w) (hsz:=by rw[lp];exact hz) hu (hJ I3.hok kb) dd fun h' dd' hs=>⟨σ,_,?_,q3⟩
 rw[rA] at dd'
 have he:∃q,h'.get? a=some q:=let ⟨q,_,_,hq,_⟩:=dd';⟨q,hq⟩
 exact kq I3 (by rw[e];exact V0) hs he (pY (by have:=yM xs k b q;lia) hd dd')
theorem lK {P:f6}{w:j6}{H:Hp} (h:Heap) (hb:K1<h.objs.size):J8 P w H (h.push { cls:=.type "dict",data:=.dict #[] }) h.objs.size (G2 P w h.objs.size []):=
 pY (j5 _) (beq_eq_false_iff_ne.mpr (G8 (q9 hb))) (Heap.DictOfH.new h)
noncomputable def Fz (P:f6) (w:j6):TE:=fun _ H Q=>∀p,H p=none->Q (.ref p) (v8 H p (G2 P w p []))
theorem vK:PE X (.Dict [] [] pos) (Fz X.prog X.w):=fun pins s σ H Q I h =>
 HV ⟨.ref s.heap.objs.size,_,I.laid (a:=s.heap.objs.size) (o:=G2 X.prog X.w s.heap.objs.size []) (t':=s.toks) (fun _ _ q=>d6 _ q) (d9 _) (lK s.heap I.big),rfl,h _ (I.hok.fresh (d9 _))⟩
noncomputable def Fy (P:f6) (w:j6) (tk tv:TE):TE:=fun σ H Q=>∀p,H p=none->tk σ (v8 H p (G2 P w p [])) fun y H1=>tv σ H1 fun x H2=>H2 p=some (G2 P w p [])/\∃b k q,y=.ref b/\x=.ref q/\tE H2 k b/\Q (.ref p) (v8 H2 p (G2 P w p [(k,b,q)]))
theorem Bf {k v:Expr}{tk tv:TE} (hu:X.A.units+2<R8) (hk:PE X k tk) (hv:PE X v tv):PE X (.Dict [some k] [v] pos) (Fy X.prog X.w tk tv):=by
 intro pins s σ H Q I q
 have I1:=I.laid (a:=s.heap.objs.size) (o:=G2 X.prog X.w s.heap.objs.size []) (h':=s.heap.push { cls:=.type "dict",data:=.dict #[] }) (t':=s.toks) (fun _ _ q=>d6 _ q) (d9 _) (lK s.heap I.big)
 refine wpAny_Dict_any rfl rfl (by simp) (by simp) (pairTrees_cons_walk (R4 (hk pins _ σ _ _ I1 (q _ (I.hok.fresh (d9 _)))) fun u s1 ⟨y,H1,I2,ry,q1⟩=>R4 (hv pins s1 σ H1 _ I2 q1) fun r s2 ⟨x,H2,I3,rx,e,b,k,z,ey,ex,kb,q2⟩=>pairTrees_nil_walk ?_))
 subst ey ex
 cases ry
 cases rx
 unfold storeAll
 rw[W4]
 obtain ⟨_,hd,dd⟩:=ko I3.hok (.inl e) (fun _ h=>nomatch h)
 refine b5 (b5 (wpAny_dictSet_heap (knd:=pK X.prog X.w) (hsz:=j5 _) (show (pK X.prog X.w).room X.A from Nat.lt_of_succ_lt hu) (hJ I3.hok kb) dd fun h' dd' hs=>d5 ?_))
 change i5 _ _ (forIn [] PUnit.unit _) _ _ _
 rw[Y5]
 refine d5 ⟨.ref s.heap.objs.size,_,?_,rfl,q2⟩
 rw[rA] at dd'
 have he:∃q,h'.get? s.heap.objs.size=some q:=let ⟨q,_,_,hq,_⟩:=dd';⟨q,hq⟩
 exact kq I3 (by rw[e];exact V0) hs he (pY (show 1<=i8 by decide) hd dd')
end
section
variable {X:Cx}{pins:List (Addr × Obj)}{σ:St}{H:Hp}{s:b9}
noncomputable def Eo (P:f6) (w:j6) (d:Addr) (o:Obj) (xs:PX):It :=
 ⟨fun i H=>H d=some (.frz o (G2 P w d xs))/\i<xs.length,fun i H v H'=>∃p x,H p=none/\v=.ref p/\H'=v8 H p (.tup [.ref x.2.1,.ref x.2.2])/\xs[i]?=some x,fun i H=>H d=some (.frz o (G2 P w d xs))/\xs.length<=i⟩
variable {d:Addr}{xs:PX}
theorem A9.frzP {o:Obj}{es:Array N3}{ep:Nat} (I:A9 X pins σ H s) (e:H d=some (.frz o (G2 X.prog X.w d xs))) (hd:o.data=.dict es ep):
  s.heap.get? d=some o/\es.size=xs.length/\∀(i:Nat) x,xs[i]?=some x->∃en:N3,es[i]?=some en/\en.key=.ref x.2.1/\en.val=.ref x.2.2:=by
 obtain ⟨h1,⟨_,_,o',es',ep',h2,_,h3,h4,_⟩,_,_⟩:=(show J8 X.prog X.w H s.heap d (.frz o (G2 X.prog X.w d xs)) from I.hok d _ e)
 rw[h1] at h2;cases h2
 rw[hd] at h3;cases h3
 refine ⟨h1,by rw[<- A8,h4,b7,lp],fun i x hx=>⟨EY (pK X.prog X.w) (x.1,x.2.1,.ref x.2.2),?_,rfl,rfl⟩⟩
 rw[<- fE,h4,m7]
 unfold fF
 rw[m7,hx];rfl
theorem qP {P:f6}{w:j6}{K:m6}{els:List Expr}{kk:Nat}{pos:Pos}{it:Addr}{o:Obj}{es:Array N3}{ep:Nat} (hd:o.data=.dict es ep):
  qt P w K (.Tuple els kk pos) (Eo P w d o xs) [it] it (fun i h=>∃ok ov,bo h it d i es.size ep ok ov) where
 mem:=tL _
 obj:=fun i h ⟨ok,ov,he⟩ c hc=>by
  rw[List.mem_singleton.mp hc]
  exact ⟨_,he,fun v q=>by cases q⟩
 keep:=fun i h h' ⟨ok,ov,he⟩ k=>⟨ok,ov,k _ (tL _) _ he⟩
 item:=by
  intro X hP hw hK hc i pins s σ H E I hf st hg
  subst hP hw hK
  obtain ⟨hF,hi⟩:=hg
  obtain ⟨ok,ov,he⟩:=st
  obtain ⟨h1,hsz,hget⟩:=I.frzP hF hd
  obtain ⟨en,e1,e2,e3⟩:=hget i _ (d0 hi)
  refine sd he h1 hd e1 fun h' z1 new sz keep=>?_
  rw[e2,e3] at z1 new
  refine ⟨_,rfl,wpAny_letOwnedTupleGo_items (s:={ s with heap:=h' }) z1 fun h2 z2 sb=>?_⟩
  have ilt:it<s.heap.objs.size:=i4 he
  have k2:∀c o,c ∉ [it]->s.heap.get? c=some o->h2.get? c=some o:=fun c o hc q=>have nz:c≠it:=fun z=>hc (List.mem_singleton.mpr z);sb.extBut _ _ nz (keep c o nz q)
  refine ⟨.ref s.heap.objs.size,_,I.yieldPair (t':=s.toks) (x:=.ref xs[i].2.1) (y:=.ref xs[i].2.2) hf k2 (sb.extBut _ _ (B4 ilt) new) rfl rfl,rfl,⟨_,_,I.hok.fresh (d9 _),rfl,rfl,d0 hi⟩,⟨_,_,z2⟩,fun c hc=>?_⟩
  rw[A3 (q9 (by rw[List.mem_singleton.mp hc];exact ilt))]
  exact (hf c hc).1
 done:=by
  intro X hP hw hK hc i pins s σ H E I hf st hg
  subst hP hw hK
  obtain ⟨hF,hi⟩:=hg
  obtain ⟨ok,ov,he⟩:=st
  obtain ⟨h1,hsz,_⟩:=I.frzP hF hd
  exact uN (I.ok.hd hc) he h1 hd (by lia) fun h' keep=>⟨rfl,I.turnedL (t':=s.toks) (ch:=[it]) (fun c o hc e=>keep c o (fun q=>hc (List.mem_singleton.mpr q)) e) hf⟩
 self:=fun _ _ _ _ _ ⟨_,_,he⟩ h=>mD he h
theorem A9.freezeP (I:A9 X pins σ H s) (e:H d=some (G2 X.prog X.w d xs)):∃o es ep,o.data=.dict es ep/\s.heap.get? d=some o/\o.ExactDict/\A9 X pins σ (v8 H d (.frz o (G2 X.prog X.w d xs))) s:=by
 have ok:=(show J8 X.prog X.w H s.heap d (G2 X.prog X.w d xs) from I.hok d _ e)
 obtain ⟨⟨_,_,o,es,ep,ho,hex,hd,_⟩,_,_⟩:=id ok
 refine ⟨o,es,ep,hd,ho,hex,?_⟩
 have oth:∀{b u},H b=some u->(∀φ,u≠.ext φ)->v8 H d (.frz o (G2 X.prog X.w d xs)) b=some u:=fun {b u} q n=>by
  rw[A3 (rQ q e (fun z=>n _ z))];exact q
 have tup:∀b ys,H b=some (.tup ys)->v8 H d (.frz o (G2 X.prog X.w d xs)) b=some (.tup ys):=fun b ys q=>oth q fun _ z=>by cases z
 have own:∀b c,H b=some (.own c)->v8 H d (.frz o (G2 X.prog X.w d xs)) b=some (.own c):=fun b c q=>oth q fun _ z=>by cases z
 exact I.step (H':=v8 H d (.frz o (G2 X.prog X.w d xs))) (h':=s.heap) (g':=s.gens) (d':=s.drawn) (t':=s.toks) (ch:=[]) (fun _ z=>nomatch z) (fun b o _ _ _ q _=>q) (fun b o _ _ _ q _=>⟨o.slots,q⟩)
  (fun b o _ _ n=>by
   by_cases hb:b=d
   ·subst hb;rw[e] at n;cases n
   ·rw[A3 hb];exact n) (fun b o _ q=>⟨o,q⟩) tup (fun b o u q=>oth q fun _ z=>by cases z) (fun b ps q=>⟨#[],by rw[oth q fun _ z=>by cases z];simp⟩) (fun m hm=>hm)
  (fun b ob q=>by
   by_cases hb:b=d
   ·subst hb
    rw[i6] at q;cases q
    exact ⟨ho,ok.stay (fun c v _ q=>q) (fun c q=>own c _ q) tup⟩
   ·rw[A3 hb] at q
    exact (I.hok b ob q).stay (fun c v _ q=>q) (fun c q=>own c _ q) tup) I.bare
noncomputable def BE (P:f6) (w:j6) (td:TE):TI:=fun σ H R=>td σ H fun x H1=>∃d xs,x=.ref d/\H1 d=some (G2 P w d xs)/\∀o,R (Eo P w d o xs) (v8 H1 d (.frz o (G2 P w d xs)))
theorem jc {e:Expr}{els:List Expr}{kk:Nat}{pt apos cpos:Pos}{td:TE} (ho:PE X e td) (hbase:xX e "items" X.env (eval e X.env)=eval e X.env:=by rfl) (hline:(apos.endLine == cpos.line)=true:=by rfl):
  PI X (.Tuple els kk pt) (.Call (.Attribute e "items" apos) [] [] cpos) (BE X.prog X.w td):=by
 intro pins s σ H R I h
 refine wpAny_Call_method0_late hbase hline (R4 (ho pins s σ H _ I h) fun v s1 ⟨x,H1,I1,r1,d,xs,ex,hd,q⟩=>?_)
 subst ex
 cases r1
 obtain ⟨o,es,ep,hdat,hob,hex,I2⟩:=I1.freezeP hd
 obtain ⟨⟨_,hsys,_⟩,_,_⟩:=(show J8 X.prog X.w H1 s1.heap d (G2 X.prog X.w d xs) from I1.hok d _ hd)
 refine ⟨"dict","dict.items",dC,qA,PySem.F.type_dict_items,⟨o,hob,hex.1⟩,fun a e=>by cases e;exact ⟨o,hob,hex.2.1⟩,eC rfl (PySem.evalArgs_none ?_)⟩
 refine uM hsys ⟨o,hob,hex.1⟩ ?_
 refine rZ (s:={ s1 with heap:=s1.heap.push { cls:=.type "dict_items",data:=.fields #[.ref d] } }) ⟨_,n5 _ rfl,rfl,rfl⟩ (d6 _ hob) hdat ?_
 have I3:=I2.kept (h':=s1.heap.push { cls:=.type "dict_items",data:=.fields #[.ref d] }) (t':=s1.toks) fun b o e=>d6 _ e
 refine ⟨_,[_],_,_,_,rfl,I3.kept (t':=s1.toks) fun b o e=>d6 _ e,qP hdat,⟨_,_,n5 _ rfl⟩,fun b hb=>?_,q o⟩
 rw[List.mem_singleton.mp hb]
 exact I3.fpOk (d9 _) (I3.hok.fresh (d9 _))
end
end L2
namespace L2
open PySem PySem.Spec PyProof.Rows HT
noncomputable def kz (k:List V3):List Int:=k.map fun z=>match z with | .inl i=>i | .inr _=>0
theorem vU (ns:List Int):kz (ns.map bh)=ns:=by
 unfold kz
 rw[B6]
 exact dF _
section
variable {X:Cx}{H:Hp}
theorem jr {P:f6}{w:j6}{h:Heap}{q:Addr}{ms:List Int} (ok:cW P w H h) (e:H q=some (.tup (ms.map V.int))):K0 h (.ref q) ms:=by
 obtain ⟨_,its,r,t⟩:=(show J8 P w H h q (.tup (ms.map V.int)) from ok q _ e)
 exact ⟨q,its,rfl,t,uP r⟩
theorem K0.keep {h h':Heap}{v:b8}{ns:List Int} (x:K0 h v ns) (k:∀a o,v=.ref a->h.get? a=some o->h'.get? a=some o):K0 h' v ns:=by
 obtain ⟨a,us,e,⟨o,ho,r⟩,i⟩:=x
 exact ⟨a,us,e,⟨o,k a o e ho,r⟩,i⟩
end
section
variable {X:Cx}{H:Hp}
theorem mW:∀{as:List Addr}{its:List b8},J2 (as.map V.ref) its->its=as.map j3
 | [],its,r=>by cases r;rfl
 | a::as,its,r=>by
  cases r with
  | cons r1 rr =>
   cases r1
   rw[mW rr];rfl
noncomputable def fg (h:Heap) (a:Addr):b8:=match h.get? a with
 | some o=>(match o.data with | .seq xs _=>xs.getD 0 .none|_=>.none)
 | none=>.none
end
end L2
namespace L2
open PySem PySem.Spec PyProof.Rows
theorem wk3 {σ0:St} (hσ:σ0[0]?=some none/\σ0[1]?=some none/\σ0[2]?=some none) (x y z:V):Wk σ0 (((σ0.set 0 (some x)).set 1 (some y)).set 2 (some z)):=by
 refine ⟨by simp,fun j u e=>?_⟩
 by_cases h2:j=2
 ·subst h2;rw[hσ.2.2] at e;cases e
 ·rw[F0 (G8 h2)]
  by_cases h1:j=1
  ·subst h1;rw[hσ.2.1] at e;cases e
  ·rw[F0 (G8 h1)]
   by_cases h0:j=0
   ·subst h0;rw[hσ.1] at e;cases e
   ·rw[F0 (G8 h0)];exact e
section
variable {K:m6}{σ0:St}{te:TE}{H:Hp}{F:List V->Hp->Prop}
theorem dq {a:Addr}{xs:List V} (hn:xs.length<=i8) (Pv:Nat->List V->Hp->Prop) (h0:Pv 0 [] H) (hl:∀i ys H,Pv i ys H->ys.length=i) (hq:∀i ys H,i<=xs.length->Pv i ys H->eA K H a xs) (hσ:σ0[0]?=some none/\σ0[1]?=some none/\σ0[2]?=some none)
  (hs:∀i ys H x,xs[i]?=some x->Pv i ys H->∃r y z v,x=.ref r/\bV K H r [y,z,v]/\te (((σ0.set 0 (some y)).set 1 (some z)).set 2 (some v)) H fun u H'=>Pv (i+1) (ys++[u]) H') (hd:∀ys H,Pv xs.length ys H->F ys H):
  Ac (Cw K a) σ0 (pW K 3 (bL (T6 0) (bL (T6 1) (bL (T6 2) sf)))) M0 te H F:=by
 refine ⟨fun i m ys H=>m=xs.length - i/\i<=xs.length/\Pv i ys H,⟨xs.length,by simp,j5 _,h0⟩,?_⟩
 rintro i m ys H2 ⟨rfl,hi,p⟩
 have q:=hq i ys H2 hi p
 refine ⟨by rw[hl i ys H2 p];lia,?_⟩
 by_cases hlt:i<xs.length
 ·refine .inr ⟨⟨xs,xs[i],q,by simp[hlt]⟩,fun y H'=>Pv (i+1) (ys++[y]) H',fun _=>False,fun y H' q=>⟨xs.length - (i+1),by lia,rfl,hlt,q⟩,fun _ q=>q.elim,fun x H3 y=>?_⟩
  obtain ⟨rfl,y⟩:=y
  obtain ⟨r,y1,z1,v1,rfl,hr,ht⟩:=hs i ys _ x (y xs q) p
  exact ⟨r,[y1,z1,v1],rfl,hr,rfl,y1,[z1,v1],rfl,z1,[v1],rfl,v1,[],rfl,rfl,wk3 hσ _ _ _,ht⟩
 ·have e:i=xs.length:=by lia
  subst e
  exact .inl ⟨⟨xs,q,d9 _⟩,hd ys H2 p⟩
end
section
variable {X:Cx}
end
section
variable {X:Cx}{K:m6}
end
section
variable {prog:f6}{w:j6}{A:r6}{E:b8->b9->Prop}{s:b9}
end
section
variable {X:Cx}
end
section
variable {X:Cx}{K:m6}
end
section
variable {prog:f6}{w:j6}{A:r6}{E:b8->b9->Prop}{s:b9}
end
section
variable {X:Cx}{pins:List (Addr × Obj)}{σ:St}{H:Hp}{s:b9}
end
section
variable {prog:f6}{w:j6}{A:r6}{E:b8->b9->Prop}{s:b9}
variable {d:Addr}{od:Obj}{es:Array N3}{ep:Nat}
theorem uK {Q:b8->b9->Prop} (hd:(d == K1)=false) (hT:s.TypeIs (.ref d) "dict") (at_d:s.heap.get? d=some od) (dat:od.data=.dict es ep)
  (q:Q (.ref s.heap.objs.size) { s with heap:=s.heap.push { cls:=.type "dict_keyiterator",data:=.fields #[.ref d,.int 0 0,.int es.size 0,.int ep 0] } }):
  i5 (n0 prog w) A (jN (.ref d)) Q E s:=by
 refine nJ hT Fp (y6 Fp hT F.entry_dict_iter ?_ (F.args_dict_iter_1 _))
 unfold Z3.«dict.__iter__»
 refine b5 ?_
 unfold Builtin.Dict.dictSlotNone
 refine b5 (BW hT ?_)
 show i5 _ _ (pure (j3 d)) _ _ s
 refine d5 ?_
 show i5 _ _ (av d >>= _) _ _ s
 unfold av
 rw[if_neg (by rw[hd];exact n9)]
 refine b5 (d5 ?_)
 refine b5 (Z1 at_d dat (b5 (aW at_d dat ?_)))
 refine b5 ?_
 unfold newFields
 refine A1 (d5 ⟨_,rfl,"dict_keyiterator",_,⟨_,n5 _ rfl,rfl⟩,F.slot_dict_keyiterator_next.lookup,?_⟩)
 simpa [V7] using q
theorem uL {it:Addr}{i:Nat}{en:N3}{Q:Option b8->b9->Prop} (on:s.heap.IsKeyIter it d i es.size ep)
  (at_d:s.heap.get? d=some od) (dat:od.data=.dict es ep) (hx:es[i]?=some en)
  (q:∀h',h'.IsKeyIter it d (i+1) es.size ep->D0 it s.heap h'->Q (some en.key) { s with heap:=h' }):i5 (n0 prog w) A (ah (.ref it)) Q E s:=by
 obtain ⟨ob,at_i,cls_i,flds⟩:=id on
 unfold ah
 refine b5 (U5 (A4 (name:=O1 "__next__") on.typeIs X9 (y6 X9 on.typeIs qD ?_ (nY _))))
 refine b5 (d5 (b5 (b5 ?_)))
 first|refine b5 (X5 on.typeIs (d5 ?_))|refine b5 (aM on.typeIs (d5 ?_))
 refine b5 (jL at_i flds ?_)
 have own:M3 "dict_keyiterator"=false:=by decide
 simp only[own,N5,if_false]
 show i5 _ _ (if (j3 d == A5)=true then _ else _) _ _ s
 rw[if_neg (show ¬ ((j3 d == A5)=true) from n9)]
 refine b5 (d5 (b5 (Z1 at_d dat ?_)))
 rw[if_neg (by simp)]
 refine b5 (d5 (b5 (aW at_d dat ?_)))
 rw[if_neg (by simp)]
 refine d5 ?_
 have lt:i<es.size:=(Array.getElem?_eq_some_iff.mp hx).1
 have ev:es[i]=en:=by rw[B9 lt] at hx;exact E2 hx
 simp only[show ¬ ((i:Int)<0) from by lia,if_false,S8,B9 lt]
 refine b5 ?_
 first|refine b5 (X5 on.typeIs (d5 ?_))|refine b5 (aM on.typeIs (d5 ?_))
 refine b5 (BZ on.typeIs ?_)
 show i5 _ _ (jM (.ref it) 1 (V7 ((i:Int)+1)) >>= _) _ _ s
 refine b5 (V5 at_i flds (by simp) ?_)
 have on':(s.heap.update it (O2 (·.setIfInBounds 1 (V7 ((i:Int)+1))))).IsKeyIter it d (i+1) es.size ep :=
  ⟨_,X7 _ at_i (bJ (R0 flds _)),(kD ..).trans cls_i,by rw[R0 flds];simp[V7]⟩
 have ty':gO { s with heap:=s.heap.update it (O2 (·.setIfInBounds 1 (V7 ((i:Int)+1)))) } (.ref it) "dict_keyiterator":=on'.typeIs (s:={ s with heap:=s.heap.update it (O2 (·.setIfInBounds 1 (V7 ((i:Int)+1)))) })
 refine b5 (M7 (b5 (BZ ty' ?_)))
 show i5 _ _ (pure es[i].key) _ _ _
 rw[ev]
 exact d5 (d5 ⟨_,rfl,d5 (q _ on' (G7 ..))⟩)
theorem xr {it:Addr}{i:Nat}{Q:Option b8->b9->Prop} (hh:A.handled=none) (on:s.heap.IsKeyIter it d i es.size ep)
  (at_d:s.heap.get? d=some od) (dat:od.data=.dict es ep) (hge:es.size<=i) (q:∀h',gI it s.heap h'->Q none { s with heap:=h' }):i5 (n0 prog w) A (ah (.ref it)) Q E s:=by
 obtain ⟨ob,at_i,cls_i,flds⟩:=id on
 unfold ah
 refine b5 (U5 (A4 (name:=O1 "__next__") on.typeIs X9 (y6 X9 on.typeIs qD ?_ (nY _))))
 refine b5 (d5 (b5 (b5 ?_)))
 first|refine b5 (X5 on.typeIs (d5 ?_))|refine b5 (aM on.typeIs (d5 ?_))
 refine b5 (jL at_i flds ?_)
 have own:M3 "dict_keyiterator"=false:=by decide
 simp only[own,N5,if_false]
 show i5 _ _ (if (j3 d == A5)=true then _ else _) _ _ s
 rw[if_neg (show ¬ ((j3 d == A5)=true) from n9)]
 refine b5 (d5 (b5 (Z1 at_d dat ?_)))
 rw[if_neg (by simp)]
 refine b5 (d5 (b5 (aW at_d dat ?_)))
 rw[if_neg (by simp)]
 refine d5 ?_
 simp only[show ¬ ((i:Int)<0) from by lia,if_false,S8,aP hge]
 refine b5 ?_
 first|refine b5 (X5 on.typeIs (d5 ?_))|refine b5 (aM on.typeIs (d5 ?_))
 show i5 _ _ (jM (.ref it) 0 .none >>= _) _ _ s
 refine b5 (V5 at_i flds (by simp) ?_)
 show i5 _ _ (Av (.type "StopIteration") [] >>= _) _ _ _
 refine b5 ?_
 simp only[Av,CC]
 refine b5 (A1 ?_ (by size_fits))
 refine b5 (m:=bM _ _) (CA (a:=A5) (by first|rfl | (simp only[bM];rfl)) ?_)
 refine A1 ?_ (by size_fits)
 simp only[raiseNew]
 refine b5 (xT ?_)
 rw[show A.in1.handled=none from hh]
 refine b5 (d5 (Cz ?_))
 refine b5 (V6 (T:="StopIteration") (b:=true) ⟨_,n5 _ rfl,rfl⟩ jO ?_)
 exact d5 (q _ (((G7 ..).extBut.push _).push _))
end
section
variable {X:Cx}{pins:List (Addr × Obj)}{σ:St}{H:Hp}{s:b9}
end
section
variable {X:Cx}
open Classical in
end
end L2
namespace So
open PySem PyProof.Rows PySem.Spec L2
section
variable {prog:f6}{w:j6}{A:r6}{E:b8->b9->Prop}{s:b9}{rk:i9->Int}{M:i9->Prop}{κ:aO}
theorem tU {rv:b8->Int}{B:Addr}{vs:List b8}{c:Nat}{P:PySem.Fin->b9->Prop} (hB:s.heap.get? B=some (O8 "list" vs.toArray c)) (h64:vs.length<64)
  (hk:2<=vs.length->∀h1,(∀b o,b≠B->s.heap.get? b=some o->h1.get? b=some o) ->
   i5 (n0 prog w) A (keyKind' vs.toArray) (fun κ s'=>s'={ s with heap:=h1 }/\sS prog w A { s with heap:=h1 } (fun x=>rv x.1) (fun x=>x.1∈vs) κ) (fun _ _=>False) { s with heap:=h1 })
  (hP:∀h' vs' c',vs'.Perm vs->vs'.Pairwise (fun x y=>rv x<=rv y)->(∀b o,b≠B->s.heap.get? b=some o->h'.get? b=some o)->h'.get? B=some (O8 "list" (N8 vs') c')->P (.done (.ret .none)) { s with heap:=h' }):i5 (n0 prog w) A (Z3.«list.sort» ⟨[.ref B],[]⟩) P E s:=by
 obtain ⟨e1,hB1⟩:∃e1,(s.heap.update B (Q9 fun _=>(#[]:Array b8))).get? B=some (O8 "list" #[] e1):=⟨_,iH hB fun _=>#[]⟩
 have b1:=G7 s.heap B (Q9 fun _=>(#[]:Array b8))
 obtain ⟨h3,eh3⟩:∃h3,h3=((s.heap.update B (Q9 fun _=>(#[]:Array b8))).push (O8 "tuple" vs.toArray 0)).push (O8 "list" #[] 0):=⟨_,rfl⟩
 have hB3:h3.get? B=some (O8 "list" #[] e1):=by rw[eh3];exact d6 _ (d6 _ hB1)
 have k3:∀b o,b≠B->s.heap.get? b=some o->h3.get? b=some o:=fun b o hb q=>by rw[eh3];exact d6 _ (d6 _ (b1.extBut b o hb q))
 rw[list_sort_plain]
 refine b5 (listItems_at hB rfl (b5 (lT hB rfl ?_ (by rw[j0,K3];lia) (j5 _))))
 refine b5 (sV hB1 rfl (b5 (eh ?_ (by show vs.length<=_;rw[K3];lia))))
 refine b5 (lR (M7 ?_) (j5 _))
 show i5 (n0 prog w) A _ P E { s with heap:=((s.heap.update B (Q9 fun _=>(#[]:Array b8))).push (O8 "tuple" vs.toArray 0)).push (O8 "list" #[] 0) }
 rw[<- eh3]
 dsimp only
 have fin:∀(st:C9) (out:List b8),(W0 st).map (·.2)=N8 out->out.length=vs.length->Y3 st=none->out.Perm vs->out.Pairwise (fun x y=>rv x<=rv y) ->
   i5 (n0 prog w) A (do
    let sorted:=(W0 st).map (·.2)
    let touched:=(<- seqEpoch B) != e1
    kG (.ref B) fun _=>sorted
    if let some e:=Y3 st then rule "list.sort.comparison-raised";throw e
    if touched then rule "list.sort.modified";raiseError "ValueError" "list modified during sort"
    ret .none) P E { s with heap:=h3 }:=fun st out ho hl hf hp hu=>by
  rw[ho]
  have sz:(N8 out).size<=i8:=by rw[j0,hl,K3];lia
  obtain ⟨c2,hc2⟩:∃c2,(h3.update B (Q9 fun _=>N8 out)).get? B=some (O8 "list" (N8 out) c2):=⟨_,iH hB3 fun _=>N8 out⟩
  refine b5 (sV hB3 rfl (b5 (lT hB3 rfl ?_ (j5 _) (f9 sz (Y6 _)))))
  rw[hf]
  simp only[bne_self_eq_false,N5,if_false]
  exact d5 (hP _ out c2 hp hu (fun b o hb q=>(G7 h3 B _).extBut b o hb (k3 b o hb q)) hc2)
 by_cases h2:2<=vs.length
 ·have hn2:¬ vs.toArray.size<2:=by rw[j0];lia
  rw[if_neg hn2,if_neg hn2]
  refine b5 (F9 (hk h2 h3 k3) (fun κ s0 hh=>?_) fun _ _ x=>x.elim)
  obtain ⟨rfl,ask⟩:=hh
  have ez:(vs.toArray.zip vs.toArray).toList=vs.map fun v=>(v,v):=by
   rw[AJ]
   show vs.zip vs=_
   clear hk hP hB h64 h2 hn2 ask fin hB1 b1 eh3 hB3 k3
   induction vs with
   | nil=>rfl
   | cons v vs ih=>rw[aH,ih];rfl
  refine b5 (F9 (eI (rk:=fun x=>rv x.1) (M:=fun x=>x.1∈vs) (s:={ s with heap:=h3 }) (Q:=fun _ st'=>(W0 st').toList.Perm (vs.map fun v=>(v,v))/\Y3 st'=none/\Up (fun x=>rv x.1) (W0 st').toList) ask (fun x hx=>?_) ?_ ?_ (fun st' a1 a2 a3=>⟨by rw[ez] at a1;exact a1,a2,a3⟩)) ?_ fun _ _ e=>e)
  ·rw[ez] at hx
   obtain ⟨v,hv,rfl⟩:=List.mem_map.mp hx
   exact hv
  ·have:=congrArg gG ez
   simp at this ⊢
   lia
  ·have:=congrArg gG ez
   simp at this ⊢
   lia
  rintro ⟨⟨⟩,st'⟩ s' ⟨rfl,hp,hf,hu⟩
  dsimp only at hp hf hu ⊢
  have twin:∀x∈(W0 st').toList,x.1=x.2:=fun x hx=>by
   obtain ⟨v,_,rfl⟩:=List.mem_map.mp (hp.mem_iff.mp hx)
   rfl
  have hp2:((W0 st').toList.map (·.2)).Perm vs:=by
   have:=hp.map (·.2)
   rw[B6] at this
   have e:vs.map ((fun x:i9=>x.2) ∘ fun v=>(v,v))=vs:=by
    have:((fun x:i9=>x.2) ∘ fun v=>(v,v))=id:=rfl
    rw[this,dF]
   rw[e] at this
   exact this
  refine fin st' ((W0 st').toList.map (·.2)) ?_ hp2.length_eq hf hp2 ?_
  ·apply Array.toList_inj.mp
   simp
  ·rw[L6]
   refine Q4 ?_ hu
   intro x y hx hy hxy
   rw[<- twin x hx,<- twin y hy]
   exact hxy
 ·have hn2:vs.toArray.size<2:=by rw[j0];lia
  rw[if_pos hn2,if_pos hn2]
  refine b5 (d5 (b5 ?_))
  rw[AB]
  refine d5 ?_
  refine fin _ vs (by
   show ((vs.toArray.zip vs.toArray).map (·.2))=vs.toArray
   apply Array.toList_inj.mp
   simp[Cb]) rfl rfl (X1 _) ?_
  match vs,h2 with
  | [],_=>exact U3
  | [v],_=>exact tJ _ _
  | a::b::l,h2=>exact absurd (by simp:2<=(a::b::l).length) h2
end
end So
namespace L2
open PySem PySem.Spec PyProof.Rows HT
section
variable {X:Cx}{H:Hp}
end
end L2
namespace L2
open PySem PySem.Spec PyProof.Rows
section
variable {X:Cx}
open Classical in
end
section
variable {X:Cx}
end
section
variable {prog:f6}{w:j6}{A:r6}{R:mj->b9->Prop}{s:b9}
end
section
variable {X:Cx}{pins:List (Addr × Obj)}{σ:St}{H H':Hp}{s s':b9}{scope:Q2}{N:List Str}{ix:List (Option Nat)}{fp:List Addr}
end
section
variable {X:Cx}{scope:Q2}{N:List Str}{ix:List (Option Nat)}{kx vx target iter:Expr}{pos:Pos}{wi:TI}{g:TG}{tk tv:TE}
end
section
variable {X:Cx}
noncomputable abbrev TJx:=St->Hp->(Str->Hp->Prop)->Prop
section
variable {es:List Expr}{n:Nat}{t:TJx}
end
end
section
variable {prog:f6}{w:j6}{A:r6}{E:b8->b9->Prop}{s:b9}
end
section
variable {X:Cx}{pins:List (Addr × Obj)}{σ:St}{H:Hp}{p d it:Addr}{rs:List Addr}{kvs:List (V3 × V)}{A:r6}{R:mj->b9->Prop}
end
section
variable {X:Cx}{pins:List (Addr × Obj)}{σ:St}{H:Hp}{s:b9}
end
section
variable {X:Cx}
noncomputable def FS:V->Option Int->Option Int->Hp->VK->Prop:=fun x lo hi H Q=>∃a,x=.str a/\a.length<=i8/\Q (.str (Txt.slice a lo hi)) H
end
section
variable {prog:f6}{w:j6}{A:r6}{E:b8->b9->Prop}{s:b9}
end
section
variable {X:Cx}{pos:Pos}
end
section
variable {prog:f6}{w:j6}{A:r6}{R:mj->b9->Prop}{s:b9}{elt t0 i0 t1 i1:Expr}{fs:List Expr}{scope:Q2}{pos:Pos}{it acc:b8}{env:Env}
end
section
variable {X:Cx}{scope:Q2}{N:List Str}{ix:List (Option Nat)}{elt t0 i0 t1 i1:Expr}{fs:List Expr}{pos:Pos}{wi wj:TI}{g g1:TG}{te:TE}{tc:TT}
end
end L2
namespace L2
open PySem PySem.Spec PyProof.Rows HT
section
open PySem.SeqAt
open PySem.AutoSeq1 (wpAny_loadPart')
open PySem.MeetsSeq PySem.MeetsSeq2 PySem.MeetsSeq3
end
section
variable {prog:f6}{w:j6}{A:r6}{s:b9}
end
section
variable {X:Cx}
end
end L2
namespace L2
open PySem PySem.Spec PyProof.Rows
section
variable {X:Cx}{pins:List (Addr × Obj)}{σ:St}{H:Hp}{p d it:Addr}{rs:List Addr}{kvs:List (List V3 × V)}{A:r6}{R:mj->b9->Prop}
end
end L2
namespace L2
open PySem PySem.Spec PyProof.Rows HT
section
variable {prog:f6}{w:j6}{A:r6}{E:b8->b9->Prop}{s:b9}
end
section
variable {X:Cx}{H:Hp}
end
section
variable {prog:f6}{w:j6}{A:r6}{E:b8->b9->Prop}{s:b9}
end
section
variable {X:Cx}{H:Hp}
end
theorem ki (c:List Int) (a b:List Int):E7 (c++a) (c++b)=E7 a b:=by
 induction c with
 | nil=>rfl
 | cons x c ih=>rw[U1,U1,P3,if_pos rfl];exact ih
theorem lH:∀{a b:List Int} (c d:List Int),a.length=b.length->a≠b->E7 (a++c) (b++d)=E7 a b
 | [],[],_,_,_,h=>absurd rfl h
 | x::a,y::b,c,d,hl,h=>by
  rw[U1,U1,P3,P3]
  by_cases e:x=y
  ·rw[if_pos e,if_pos e]
   exact lH c d (by simpa using hl) fun z=>h (by rw[e,z])
  ·rw[if_neg e,if_neg e]
 | [],_::_,_,_,hl,_=>by simp at hl
 | _::_,[],_,_,hl,_=>by simp at hl
section
variable {prog:f6}{w:j6}{A:r6}{E:b8->b9->Prop}{s:b9}
theorem K0.eqT {p q:b8}{ns:List Int} (h1:K0 s.heap p ns) (h2:K0 s.heap q ns) (hu:A.units<R8):ya A s p q true:=by
 obtain ⟨a,us,rfl,⟨oa,ha,hca,na,hda⟩,i1⟩:=h1
 obtain ⟨b,vs,rfl,⟨ob,hb,hcb,nb,hdb⟩,i2⟩:=h2
 have l1:=bT i1
 have l2:=bT i2
 by_cases hab:a=b
 ·subst hab
  exact wK _
 ·have:=sZ hab (tI (A:=A) (e:=fun _=>true) ⟨oa,ha,hca,na,hda⟩ ⟨ob,hb,hcb,nb,hdb⟩ hu fun j h1 h2=>by
   have h1':j<us.length:=by simpa using h1
   have h2':j<vs.length:=by simpa using h2
   obtain ⟨t,ex⟩:=fw i1 (d0 h1')
   obtain ⟨u,ey⟩:=fw i2 (d0 h2')
   have e1:us.toArray[j]=.int (ns.getD j 0) t:=by rw[cc];exact ex
   have e2:vs.toArray[j]=.int (ns.getD j 0) u:=by rw[cc];exact ey
   rw[e1,e2]
   have e3:true=(ns.getD j 0 == ns.getD j 0):=by simp
   rw[e3]
   exact bX _ t _ u)
  have e:((G5 (min us.toArray.size vs.toArray.size)).all (fun _=>true)&&us.toArray.size == vs.toArray.size)=true:=by
   rw[u7,U2,beq_iff_eq,j0,j0]
   exact ⟨fun _ _=>rfl,by lia⟩
  rw[e] at this
  exact this
theorem vX {b fin:Bool}{Q:Bool->b9->Prop} (h:Q fin s):∀(l:List b8) (i:Nat),W.KatLex prog w A b fin Q (l.zip l) i s
 | [],_=>Fe h
 | v::l,i=>kr (wK v prog w _ _ (Fc (vX h l (i+1))))
theorem AM {x y:Addr}{p1 p2 q1 q2:b8}{rx ry:List b8}{n k:Nat}{ox oy:Obj}{a1 a2 b1 b2:List Int}{Q:Bool->b9->Prop} (hx:s.heap.get? x=some ox) (dx:ox.data=.seq (p1::p2::rx).toArray n) (hy:s.heap.get? y=some oy)
  (dy:oy.data=.seq (q1::q2::ry).toArray k) (h1:K0 s.heap p1 a1) (h2:K0 s.heap p2 a2) (g1:K0 s.heap q1 b1) (g2:K0 s.heap q2 b2) (hl:a1.length=b1.length) (hsame:a1++a2=b1++b2->x=y) (hu:A.units<R8) (hq:Q (E7 (a1++a2) (b1++b2)) s):
  i5 (n0 prog w) A (keyLt' (tuples' false) (.ref x) (.ref y)) Q E s:=by
 refine W.kat_lt hx dx hy dy ?_
 by_cases e1:a1=b1
 ·subst e1
  by_cases e2:a2=b2
  ·subst e2
   cases hsame rfl
   rw[hx] at hy;cases hy
   rw[dx] at dy
   injection dy with e _
   rw[<- e]
   rw[pO] at hq
   rw[decide_eq_false (T3 _)]
   exact vX hq _ 0
  ·rw[ki] at hq
   refine kr (K0.eqT (A:=A) h1 g1 hu prog w _ _ (Fc (kr (K0.eq (A:=A) h2 g2 hu e2 prog w _ _ (Ib ?_)))))
   rw[Q7]
   exact Fd p2 q2 (K0.lt h2 g2 hu hq)
 ·rw[lH _ _ hl e1] at hq
  refine kr (K0.eq (A:=A) h1 g1 hu e1 prog w _ _ (Ib ?_))
  rw[Q7]
  exact Fd p1 q1 (K0.lt h1 g1 hu hq)
end
theorem nD {h:Heap}{a:Addr}{o:Obj}{f:b8}{tl:List b8}{n:Nat} (e:h.get? a=some o) (d:o.data=.seq (f::tl).toArray n):fg h a=f:=by
 unfold fg
 rw[e]
 dsimp only
 rw[d];rfl
theorem rX {h:Heap}:∀{as:List Addr},(∀a∈as,∃(o:Obj) (f:b8) (tl:List b8) (n:Nat),h.get? a=some o/\o.cls=.type "tuple"/\o.data=.seq (f::tl).toArray n)->W.KatTups h (as.map j3) (as.map (fg h))
 | [],_=>Ah
 | a::as,hh=>by
  obtain ⟨o,f,tl,n,e1,e2,e3⟩:=hh a (.head _)
  exact xZ e1 e2 e3 (by rw[nD e1 e3];rfl) (rX fun b hb=>hh b (.tail _ hb))
section
variable {X:Cx}{pins:List (Addr × Obj)}{σ:St}{H:Hp}{s:b9}
theorem wV {v:b8}{as:List Addr}{key:Addr->List Int}{Q:VK} (I:A9 X pins σ H s) (hu:X.A.units+64<R8) (h128:as.length<128)
  (hcol:∀R:List b8->b9->Prop,(∀h' tk,s.heap.objs.size<h'.objs.size->(∀b o,s.heap.get? b=some o->h'.get? b=some o)->R (as.map j3) { s with heap:=h',toks:=tk })->i5 (n0 X.prog X.w) X.A.in1 (Ay v) R X.xe s)
  (hob:∀a∈as,∃(o:Obj) (f:b8) (tl:List b8) (n:Nat),s.heap.get? a=some o/\o.cls=.type "tuple"/\o.data=.seq (f::tl).toArray n/\∃ns,K0 s.heap f ns)
  (hlt:∀{A':r6}{E':b8->b9->Prop}{s1:b9}{R:Bool->b9->Prop}{x y:Addr},A'.units<R8->(∀b o,s.heap.get? b=some o->s1.heap.get? b=some o)->x∈as->y∈as->R (E7 (key x) (key y)) s1->i5 (n0 X.prog X.w) A' (keyLt' (tuples' false) (.ref x) (.ref y)) R E' s1)
  (q:∀(D:Addr) (as':List Addr) (H':Hp),as'.Perm as->as'.Pairwise (fun a b=>E7 (key b) (key a)=false)->j4 H H'->H D=none->H' D=some (.lst (as'.map V.ref))->Q (.ref D) H'):
  i5 (n0 X.prog X.w) X.A (call (.builtin "sorted") [v]) (EP X pins σ Q) X.xe s:=by
 refine qF kind_sorted plain_sorted entry_sorted (args_sorted1 _) ?_
 unfold Z3.«sorted»
 refine b5 (m:=checkCount "sorted" 1 1 _) (d5 ?_)
 refine b5 (hcol _ fun h' tk hsz k1=>?_)
 have hz:(as.map j3).length<=i8:=by rw[b7,K3];lia
 refine b5 (lR ?_ hz)
 have hB:(h'.push (O8 "list" (as.map j3).toArray 0)).get? h'.objs.size=some (O8 "list" (as.map j3).toArray 0):=n5 _ rfl
 have k2:∀b o,s.heap.get? b=some o->(h'.push (O8 "list" (as.map j3).toArray 0)).get? b=some o:=fun b o e=>d6 _ (k1 b o e)
 have lt1:∀b o,s.heap.get? b=some o->b≠h'.objs.size:=fun b o e=>q9 (Ig (i4 e) hsz)
 change i5 _ _ _ _ _ { s with heap:=h'.push (O8 "list" (as.map j3).toArray 0),toks:=tk }
 refine b5 (M7 (y6 slot_list_sort ⟨_,hB,rfl⟩ entry_list_sort ?body (args_list_sort _)))
 obtain ⟨ks,eks⟩:∃ks:List (List Int),ks=as.map key:=⟨_,rfl⟩
 have ksM:∀{a},a∈as->key a∈ks:=fun ha=>by rw[eks];exact List.mem_map.mpr ⟨_,ha,rfl⟩
 let rv:b8->Int:=fun v=>match v with | .ref a=>(fN ks (key a):Int)|_=>0
 refine So.wW (rv:=rv) (s:={ s with heap:=h'.push (O8 "list" (as.map j3).toArray 0),toks:=tk }) (vs:=as.map j3) hB (by rw[b7];exact h128) (fun h2 h1 kp=>?_) (fun h5 vs' c' hpm hup kp hB5=>?_)
 ·have k4:∀b o,s.heap.get? b=some o->h1.get? b=some o:=fun b o e=>kp b o (lt1 b o e) (k2 b o e)
  rw[b7] at h2
  refine W.kat_kind (T:=.type "tuple") (rX (as:=as) fun a ha=>?_) (by rw[b7];lia) (fun f hf=>?_) (by decide) ⟨rfl,fun x y hx hy R hR=>?_⟩
  ·obtain ⟨o,f,tl,n,e1,e2,e3,_⟩:=hob a ha
   exact ⟨o,f,tl,n,k4 _ _ e1,e2,e3⟩
  ·obtain ⟨a,ha,rfl⟩:=List.mem_map.mp hf
   obtain ⟨o,f,tl,n,e1,e2,e3,ns,t1⟩:=hob a ha
   rw[nD (k4 _ _ e1) e3]
   obtain ⟨b,us,eb,⟨ob,hob,hcb,_⟩,_⟩:=t1
   rw[eb]
   exact W.kitAt_ty _ _ ⟨ob,k4 _ _ hob,hcb⟩
  ·obtain ⟨x1,x2⟩:=x
   obtain ⟨y1,y2⟩:=y
   dsimp only at hx hy hR ⊢
   obtain ⟨ax,hax,rfl⟩:=List.mem_map.mp hx
   obtain ⟨ay,hay,rfl⟩:=List.mem_map.mp hy
   refine hlt (by show X.A.units+1+1<R8;lia) (fun b o e=>k4 b o e) hax hay ?_
   have eR:decide (rv (.ref ax)<rv (.ref ay))=E7 (key ax) (key ay):=hG (ksM hax) (ksM hay)
   rw[<- eR]
   exact hR
 ·refine ⟨_,rfl,d5 ⟨_,rfl,?_⟩⟩
  obtain ⟨as',hL,rfl⟩:=dQ hpm
  have k5:∀b o,s.heap.get? b=some o->h5.get? b=some o:=fun b o e=>kp b o (lt1 b o e) (k2 b o e)
  have hfr:H h'.objs.size=none:=I.hok.fresh (O3 hsz)
  have J:=I.laid (a:=h'.objs.size) (o:=.lst (as'.map V.ref)) (h':=h5) (t':=tk) k5 (O3 hsz) ⟨?_,as'.map j3,c',?_,hB5⟩
  ·refine ⟨.ref h'.objs.size,_,J,rfl,q _ as' _ hL ?_ (j4.new hfr) hfr i6⟩
   rw[L6] at hup
   refine Q4 ?_ hup
   intro t u ht hu' hle
   have:=hG (ksM (hL.mem_iff.mp hu')) (ksM (hL.mem_iff.mp ht))
   have hle':(fN ks (key t):Int)<=fN ks (key u):=hle
   rw[decide_eq_false (by lia)] at this
   exact this.symm
  ·rw[b7,hL.length_eq,K3];lia
  ·clear hup hpm hB5 hL
   induction as' with
   | nil=>exact .nil
   | cons t L ih=>exact .cons rfl ih
end
end L2
namespace L2
open PySem PySem.Spec PyProof.Rows HT HP
section
variable {prog:f6}{w:j6}{A:r6}{E:b8->b9->Prop}{s:b9}
theorem xv {d:Addr}{od:Obj}{es:Array N3}{ep:Nat} (lo:(d == K1)=false) (cl:od.cls=.type "dict") (dat:od.data=.dict es ep):W.KdlSrc prog w "dict" d d es.size (fun i v=>∃en:N3,es[i]?=some en/\v=en.key) (fun h=>h.get? d=some od) where
 type:=fun _ m=>⟨od,m,cl⟩
 there:=fun _ m=>⟨i4 m,i4 m⟩
 keep:=fun _ _ m k=>k d (.inl rfl) _ m
 notList:=by decide
 notTuple:=by decide
 hint:=fun _ _ _ _ m q=>W.kdl_hint_dict ⟨od,m,cl⟩ q
 iter:=fun A s hh m=>by
  have ne:d≠s.heap.objs.size:=q9 (i4 m)
  refine ⟨_,(fun i h=>h.IsKeyIter s.heap.objs.size d i es.size ep/\h.get? d=some od),(fun _ _ q=>uK lo ⟨od,m,cl⟩ m dat q),⟨fun b hb=>by simp at hb;simp[hb],fun _ _ _ st k=>⟨st.1.at fun o e=>k _ (by simp) o e,k d (by simp) _ st.2⟩,fun i s' Q E hi st q=>?_,fun s' Q E st q=>?_,fun _ _ _ _ st q=>wpAny_pyIter_keyiter st.1 q⟩,⟨⟨_,n5 _ rfl,rfl,rfl⟩,d6 _ m⟩⟩
  ·exact uL st.1 st.2 dat (B9 hi) fun h' on sb=>q _ h' s'.toks ⟨_,B9 hi,rfl⟩ ⟨on,sb.extBut _ _ ne st.2⟩ fun b o hb e=>sb.extBut b o (fun z=>hb (by simp[z])) e
  ·exact xr hh st.1 st.2 dat (d9 _) fun h' x=>q h' s'.toks fun b o hb e=>x b o (fun z=>hb (by simp[z])) e
theorem fP {d:Addr}{od:Obj}{es:Array N3}{ep:Nat}{Q:List b8->b9->Prop} (hh:A.handled=none) (lo:(d == K1)=false) (ho:s.heap.get? d=some od) (cl:od.cls=.type "dict") (dat:od.data=.dict es ep) (hsz:es.size<=i8)
  (h:∀h' tk,s.heap.objs.size<h'.objs.size->(∀b o,s.heap.get? b=some o->h'.get? b=some o)->Q (es.toList.map fK) { s with heap:=h',toks:=tk }):i5 (n0 prog w) A (Ay (.ref d)) Q E s:=by
 have lt:=i4 ho
 unfold Ay
 refine b5 (wpAny_runValue (codeAny_builtin F.entry_proto_collect ?_))
 rw[vk F.plain_proto_collect _]
 change i5 _ A.in1 (newList [] >>= fun l=>again (.builtin "list.__iadd__" ⟨[l,.ref d],[]⟩)) _ _ s
 refine b5 (A1 (d5 ⟨plainId_quiet EE _,codeAny_builtin F.entry_list_iadd ?_⟩))
 rw[vk EE _]
 have hS1:(s.heap.push { cls:=.type "list",data:=.seq ([]:List b8).toArray }).get? s.heap.objs.size=some { cls:=.type "list",data:=.seq #[] }:=n5 _ rfl
 change i5 _ A.in1 (Builtin.List.listExtendWith (.ref s.heap.objs.size) (.ref d) (.ref s.heap.objs.size)) _ _ _
 have key:=W.kdl_extend (A:=A) (s:={ s with heap:=s.heap.push { cls:=.type "list",data:=.seq ([]:List b8).toArray } }) (xv (prog:=prog) (w:=w) lo cl dat)
  (R:=fun (q:mj) (s':b9)=>∃(h':Heap) (tk:Nat) (acc':Array b8) (c':Nat),q=.ok (.ret (.ref s.heap.objs.size))/\s'={ s with heap:=h',toks:=tk } /\
   (∀b o,s.heap.get? b=some o->h'.get? b=some o)/\h'.get? s.heap.objs.size=some { cls:=.type "list",dict:=none,data:=.seq acc' c',slots:=#[] }/\ItemsOf (fun i v=>∃en:N3,es[i]?=some en/\v=en.key) acc' es.size)
  hh (d6 _ ho) s.heap.objs.size (B4 lt) (B4 lt) (.ref s.heap.objs.size) 0 hS1
  (fun h' tk acc' c' hk hS' hacc=>⟨h',tk,acc',c',rfl,rfl,fun b o e=>hk b o (q9 (i4 e)) (d6 _ e),hS',hacc⟩) hsz
 have out:∀(h':Heap) (tk:Nat) (acc':Array b8) (c':Nat),(∀b o,s.heap.get? b=some o->h'.get? b=some o)->h'.get? s.heap.objs.size=some { cls:=.type "list",dict:=none,data:=.seq acc' c',slots:=#[] }->ItemsOf (fun i v=>∃en:N3,es[i]?=some en/\v=en.key) acc' es.size ->
   i5 (n0 prog w) A (do
    let o <- load s.heap.objs.size
    match o.data with
    | .seq xs _=>pure xs.toList
    | _=>unsupported "internal:collect") Q E { s with heap:=h',toks:=tk }:=fun h' tk acc' c' k1 k2 k3=>by
  refine b5 (wpAny_load k2 (d5 ?_))
  change Q acc'.toList _
  have e:acc'.toList=es.toList.map fK:=by
   refine jZ fun i=>?_
   rw[m7,fE,fE]
   by_cases hi:i<es.size
   ·obtain ⟨en,e1,e2⟩:=k3.2 i _ (B9 (show i<acc'.size by rw[k3.1];exact hi))
    rw[B9 (show i<acc'.size by rw[k3.1];exact hi),e1,e2];rfl
   ·have h1:=k3.1
    rw[aP (show acc'.size<=i by lia),aP (show es.size<=i by lia)];rfl
  rw[e]
  exact h h' tk (i4 k2) k1
 refine F9 key (fun fin s' x=>?_) fun e s' x=>?_
 ·cases fin with
  | done f =>
   obtain ⟨h',tk,acc',c',e,rfl,k1,k2,k3⟩:=x
   cases e
   exact out h' tk acc' c' k1 k2 k3
  | again c1 =>
   refine ⟨x.1,nP x.2 fun r s2 y=>?_⟩
   obtain ⟨h',tk,acc',c',e,rfl,k1,k2,k3⟩:=y
   subst e
   exact out h' tk acc' c' k1 k2 k3
 ·obtain ⟨_,_,_,_,z,_⟩:=x
  cases z
end
noncomputable def Eh (H:Hp) (a:Addr) (u v:List Int):Prop:=∃c d tl,H a=some (.tup (.ref c::.ref d::tl))/\H c=some (.tup (u.map V.int))/\H d=some (.tup (v.map V.int))
structure Eg (H:Hp) (as:List Addr) (n:Nat) (ku kv:Addr->List Int):Prop where
 at_:∀a∈as,Eh H a (ku a) (kv a)
 len:∀a∈as,(ku a).length=n
 nd:(as.map fun a=>ku a++kv a).Nodup
section
variable {X:Cx}{pins:List (Addr × Obj)}{σ:St}{H:Hp}{s:b9}
theorem Eh.obj {a:Addr}{u v:List Int} (I:A9 X pins σ H s) (h:Eh H a u v):∃(o:Obj) (f g:b8) (tl:List b8) (n:Nat),s.heap.get? a=some o/\o.cls=.type "tuple"/\o.data=.seq (f::g::tl).toArray n/\K0 s.heap f u/\K0 s.heap g v:=by
 obtain ⟨c,d,tl,h1,h2,h3⟩:=h
 obtain ⟨_,vs,r,o,ho,hc,n,hd⟩:=(show J8 X.prog X.w H s.heap a _ from I.hok a _ h1)
 cases r with
 | cons r1 rr =>
  cases rr with
  | cons r2 rr =>
   cases r1
   cases r2
   exact ⟨o,_,_,_,n,ho,hc,hd,jr I.hok h2,jr I.hok h3⟩
theorem Eg.key {as:List Addr}{n:Nat}{ku kv:Addr->List Int} (T:Eg H as n ku kv) {x y:Addr} (hx:x∈as) (hy:y∈as) (e:ku x++kv x=ku y++kv y):x=y:=by
 obtain ⟨i,hi,ex⟩:=List.mem_iff_getElem.mp hx
 obtain ⟨j,hj,ey⟩:=List.mem_iff_getElem.mp hy
 have:i=j:=(Cd (h₀:=by rw[b7];exact hi) (h₁:=by rw[b7];exact hj) T.nd).mp (by rw[Cc,Cc,ex,ey];exact e)
 subst this
 rw[<- ex,<- ey]
theorem qU {v:b8}{as:List Addr}{n:Nat}{ku kv:Addr->List Int}{Q:VK} (I:A9 X pins σ H s) (hu:X.A.units+64<R8) (h128:as.length<128) (T:Eg H as n ku kv)
  (hcol:∀R:List b8->b9->Prop,(∀h' tk,s.heap.objs.size<h'.objs.size->(∀b o,s.heap.get? b=some o->h'.get? b=some o)->R (as.map j3) { s with heap:=h',toks:=tk })->i5 (n0 X.prog X.w) X.A.in1 (Ay v) R X.xe s)
  (q:∀(D:Addr) (as':List Addr) (H':Hp),as'.Perm as->as'.Pairwise (fun a b=>E7 (ku b++kv b) (ku a++kv a)=false)->j4 H H'->H D=none->H' D=some (.lst (as'.map V.ref))->Q (.ref D) H'):
  i5 (n0 X.prog X.w) X.A (call (.builtin "sorted") [v]) (EP X pins σ Q) X.xe s:=by
 refine wV (key:=fun a=>ku a++kv a) I hu h128 hcol (fun a ha=>?_) (fun {A' E' s1 R x y} hu' k hx hy hR=>?_) q
 ·obtain ⟨o,f,g,tl,n,e1,e2,e3,e4,_⟩:=(T.at_ a ha).obj I
  exact ⟨o,f,g::tl,n,e1,e2,e3,_,e4⟩
 ·obtain ⟨o,f,g,tl,m,e1,_,e3,e4,e5⟩:=(T.at_ x hx).obj I
  obtain ⟨o',f',g',tl',m',e1',_,e3',e4',e5'⟩:=(T.at_ y hy).obj I
  have kp:∀{v:b8}{ns:List Int},K0 s.heap v ns->K0 s1.heap v ns:=fun h=>h.keep fun b o _ e=>k b o e
  exact AM (k _ _ e1) e3 (k _ _ e1') e3' (kp e4) (kp e5) (kp e4') (kp e5') ((T.len x hx).trans (T.len y hy).symm) (T.key hx hy) hu' hR
noncomputable def yH (K:m6):List V->Hp->VK->Prop:=fun xs H Q=>∃(p:Addr) (as:List Addr) (n:Nat) (ku kv:Addr->List Int),xs=[.ref p]/\eA K H p (as.map V.ref)/\as.length<128/\Eg H as n ku kv /\
 ∀(D:Addr) (as':List Addr) (H':Hp),as'.Perm as->as'.Pairwise (fun a b=>E7 (ku b++kv b) (ku a++kv a)=false)->j4 H H'->H D=none->H' D=some (.lst (as'.map V.ref))->Q (.ref D) H'
theorem lN (hu:X.A.units+64<R8):Z0 X (.builtin "sorted") (yH X.K):=by
 intro pins s σ H xs us Q I rr h
 obtain ⟨p,as,n,ku,kv,rfl,hp,h128,T,q⟩:=h
 cases rr with
 | cons r1 rr =>
  cases rr
  cases r1
  refine qU I hu h128 T (fun R hR=>?_) q
  obtain ⟨its,rv',hl,hz⟩:=I.list hp
  have e:=mW rv'
  subst e
  refine collect_list hl.isList (hR _ s.toks ?_ fun b o e=>?_) (by rw[b7,K3];lia)
  ·rw[Heap.size_update,size_push'];exact Q3 _
  ·have hlt:=i4 e
   rw[Heap.get?_update_ne _ _ _ _ (q9 hlt),Heap.get?_push_ne _ _ _ (q9 hlt)]
   exact e
noncomputable def Dx (P:f6) (w:j6):List V->Hp->VK->Prop:=fun xs H Q=>∃(d:Addr) (ps:PX) (n:Nat) (ku kv:Addr->List Int),xs=[.ref d]/\H d=some (G2 P w d ps)/\ps.length<128/\Eg H (ps.map (·.2.1)) n ku kv /\
 ∀(D:Addr) (as':List Addr) (H':Hp),as'.Perm (ps.map (·.2.1))->as'.Pairwise (fun a b=>E7 (ku b++kv b) (ku a++kv a)=false)->j4 H H'->H D=none->H' D=some (.lst (as'.map V.ref))->Q (.ref D) H'
theorem uU (hc:X.calm=true) (hu:X.A.units+64<R8):Z0 X (.builtin "sorted") (Dx X.prog X.w):=by
 intro pins s σ H xs us Q I rr h
 obtain ⟨d,ps,n,ku,kv,rfl,hd,h128,T,q⟩:=h
 cases rr with
 | cons r1 rr =>
  cases rr
  cases r1
  obtain ⟨⟨_,hsys,o,es,ep,ho,hex,hdat,hes,_⟩,_,_⟩:=(show J8 X.prog X.w H s.heap d (G2 X.prog X.w d ps) from I.hok d _ hd)
  refine qU I hu (by rw[b7];exact h128) T (fun R hR=>?_) q
  refine fP (A:=X.A.in1) (I.ok.hd hc) hsys ho hex.1 hdat ?_ fun h' tk hz k=>?_
  ·rw[<- A8,hes,b7,lp,K3];lia
  ·have e:es.toList.map fK=(ps.map (·.2.1)).map j3:=by
    rw[hes]
    unfold fF
    rw[B6,B6,B6];rfl
   rw[e]
   exact hR h' tk hz k
end
end L2
namespace M8
open PySem PySem.Spec L2 Mt Md Mq HP
noncomputable def el (rs:List (List Int)) (u v:List Int):Nat->List (Int × List Int)
 | 0=>[]
 | i+1=>el rs u v i++(if 0<u.getD i 0 then [(u.getD i 0,N7 v (rs.getD i [])++u)] else [])
noncomputable def F1 (n:Nat) (rs:List (List Int)):v5->v5->v5
 | [],D=>D
 | p::T,D=>F1 n rs T (K9 p.2 (p.1.take n).sum (el rs (p.1.take n) (p.1.drop n) n) D)
noncomputable def ao (n:Nat) (rs:List (List Int)):Nat->v5->v5
 | 0,T=>T
 | k+1,T=>F1 n rs (ao n rs k T) []
theorem jI (n:Nat) (rs:List (List Int)) (p:List Int × Rat):∀(T D:v5),F1 n rs (T++[p]) D=K9 p.2 (p.1.take n).sum (el rs (p.1.take n) (p.1.drop n) n) (F1 n rs T D)
 | [],D=>rfl
 | q::T,D=>jI n rs p T _
structure Uu (n m:Nat) (k:List Int):Prop where
 one:Y9 n m (k.take n)
 two:Y9 n m (k.drop n)
noncomputable def KU (n m:Nat) (T:v5):Prop:=∀p∈T,Uu n m p.1
variable {n:Nat}{u v:List Int}
theorem Z8 (h:u.length=n):(u++v).take n=u/\(u++v).drop n=v:=by
 subst h
 exact ⟨List.take_left,List.drop_left⟩
variable {m:Nat}
theorem Uu.of (hu:Y9 n m u) (hv:Y9 n m v):Uu n m (u++v):=by
 obtain ⟨e1,e2⟩:=Z8 (v:=v) hu.len
 exact ⟨by rw[e1];exact hu,by rw[e2];exact hv⟩
theorem Y9.up {m':Nat}(h:Y9 n m u) (l:m<=m'):Y9 n m' u:=⟨h.len,fun x hx=>⟨(h.nn x hx).1,by have:=(h.nn x hx).2;lia⟩,h.pos⟩
theorem pJ {n m:Nat}{rs:List (List Int)}{u v:List Int} (hR:jW n 5 rs) (hu:Y9 n m u) (hv:Y9 n m v):∀{i:Nat},i<=n->∀b∈el rs u v i,(0<b.1/\b.1<=u.sum)/\Uu n (m+5) b.2/\∃j,j<n/\b=(u.getD j 0,N7 v (rs.getD j [])++u)
 | 0,_,b,hb=>by simp[el] at hb
 | i+1,hi,b,hb=>by
  unfold el at hb
  rcases List.mem_append.mp hb with hb|hb
  ·exact pJ hR hu hv (by lia) b hb
  ·split at hb
   ·rename_i hp
    rw[List.mem_singleton.mp hb]
    exact ⟨⟨hp,ag hu i⟩,Uu.of (hv.add (hR.at (by lia))) (Y9.up hu (by lia)),i,by lia,rfl⟩
   ·simp at hb
theorem pP (rs:List (List Int)) (u v:List Int):∀i:Nat,(el rs u v i).length<=i
 | 0=>d9 _
 | i+1=>by
  unfold el
  rw[n8]
  have:=pP rs u v i
  split
  ·rw[wM];lia
  ·rw[M4];lia
theorem hH {W:List Int->Prop}{N E:Nat}{x:Rat}{s:Int} (hx:Vq N E x) (hs:0<s) (hs2:s<=200):∀(bs:List (Int × List Int)) {D:v5}{B:Nat},(∀b∈bs,(0<b.1/\b.1<=s)/\W b.2)->(∀p∈D,W p.1)->bI D->aF (N*LL) B D ->
  (∀p∈K9 x s bs D,W p.1)/\bI (K9 x s bs D)/\aF (N*LL) (B+E*bs.length) (K9 x s bs D)/\(K9 x s bs D).length<=D.length+bs.length
 | [],D,B,_,h1,h2,h3=>⟨h1,h2,h3,by unfold K9;simp⟩
 | b::bs,D,B,h,h1,h2,h3=>by
  unfold K9
  have hb:=h b (.head _)
  have hv:Vq (N*LL) E (x*cut b.1 s):=(hx.mul (pZ (by lia) hb.1.2 hs hs2)).mono (by lia)
  obtain ⟨a1,a2,a3,a4⟩:=hH hx hs hs2 bs (D:=U9 D b.2 (x*cut b.1 s)) (fun c hc=>h c (.tail _ hc)) (fun p hp=>by
   rcases cg hp with e|⟨q,hq,e⟩
   ·rw[e];exact hb.2
   ·rw[<- e];exact h1 q hq) (pI h2) (h3.add hv)
  have:=rV b.2 (x*cut b.1 s) D
  exact ⟨a1,a2,a3.mono (by rw[p4,V1];lia),by rw[p4];lia⟩
theorem jk {n m N E:Nat}{rs:List (List Int)} (hR:jW n 5 rs) (n4:n<=4) (hm:m<=50):∀(T:v5) {D:v5}{B:Nat},KU n m T->aF N E T->KU n (m+5) D->bI D->aF (N*LL) B D ->
  KU n (m+5) (F1 n rs T D)/\bI (F1 n rs T D)/\aF (N*LL) (B+E*(4*T.length)) (F1 n rs T D)/\(F1 n rs T D).length<=D.length+n*T.length
 | [],D,B,_,_,h1,h2,h3=>⟨h1,h2,h3,by unfold F1;simp⟩
 | p::T,D,B,h,hE,h1,h2,h3=>by
  unfold F1
  have hp:=h p (.head _)
  obtain ⟨b1,b2,b3,b4⟩:=hH (W:=Uu n (m+5)) (hE p (.head _)) hp.one.pos (fq hp.one n4 hm) (el rs (p.1.take n) (p.1.drop n) n) (fun b hb=>have z:=pJ hR hp.one hp.two (d9 n) b hb;⟨z.1,z.2.1⟩) h1 h2 h3
  obtain ⟨a1,a2,a3,a4⟩:=jk hR n4 hm T (fun q hq=>h q (.tail _ hq)) (fun q hq=>hE q (.tail _ hq)) b1 b2 b3
  have e:=pP rs (p.1.take n) (p.1.drop n) n
  refine ⟨a1,a2,a3.mono ?_,?_⟩
  ·have:E*(el rs (p.1.take n) (p.1.drop n) n).length<=E*4:=B0 _ (by lia)
   rw[p4,V1 4,V1 E];lia
  ·rw[p4,V1,Nat.mul_one];lia
theorem gD {n:Nat}{rs:List (List Int)}{u v:List Int} (hR:jW n 5 rs) (n4:n<=4) (hu:Y9 n 20 u) (hv:Y9 n 20 v):∀k:Nat,k<=6->KU n (20+5*k) (ao n rs k [(u++v,1)])/\bI (ao n rs k [(u++v,1)])/\aF (LL ^ k) (4 ^ (k*k)) (ao n rs k [(u++v,1)])/\(ao n rs k [(u++v,1)]).length<=4 ^ k
 | 0,_=>⟨fun p hp=>by rw[List.mem_singleton.mp hp];exact Uu.of hu hv,by unfold ao bI;simp,fun p hp=>by rw[List.mem_singleton.mp hp];exact Vq.one _,by show 1<=1;lia⟩
 | k+1,hk=>by
  obtain ⟨a1,a2,a3,a4⟩:=gD hR n4 hu hv k (by lia)
  obtain ⟨b1,b2,b3,b4⟩:=jk (D:=[]) (B:=0) hR n4 (by lia) _ a1 a3 (fun p hp=>by simp at hp) (by unfold bI;simp) (fun p hp=>by simp at hp)
  rw[S6] at b3
  rw[M4,S6] at b4
  refine ⟨by rw[show 20+5*(k+1)=20+5*k+5 by lia];exact b1,b2,?_,?_⟩
  ·rw[wL LL]
   refine b3.mono ?_
   have h1:4*(ao n rs k [(u++v,1)]).length<=4 ^ (k+1):=by rw[wL];lia
   refine f9 (B0 _ h1) ?_
   rw[<- D5]
   refine u6 (by decide) ?_
   have:(k+1)*(k+1)=k*k+k+k+1:=by rw[Nat.add_mul,V1];lia
   lia
  ·show (F1 n rs _ []).length<=4 ^ (k+1)
   have:n*(ao n rs k [(u++v,1)]).length<=4*4 ^ k:=u4 n4 a4
   rw[wL];lia
theorem eW {n:Nat}{rs:List (List Int)}:∀{T D:v5}{p:List Int × Rat},p∈F1 n rs T D->(∃q∈T,∃b∈el rs (q.1.take n) (q.1.drop n) n,p.1=b.2) ∨ ∃q∈D,q.1=p.1
 | [],D,p,h=>.inr ⟨p,h,rfl⟩
 | t::T,D,p,h=>by
  unfold F1 at h
  rcases eW h with ⟨q,hq,b,hb,e⟩|⟨q,hq,e⟩
  ·exact .inl ⟨q,.tail _ hq,b,hb,e⟩
  ·rcases gu hq with ⟨b,hb,e2⟩|⟨r,hr,e2⟩
   ·exact .inl ⟨t,.head _,b,hb,by rw[<- e,e2]⟩
   ·exact .inr ⟨r,hr,by rw[e2,e]⟩
noncomputable def K2 (n:Nat) (rs:List (List Int)) (U V:List Int) (a b:Nat) (k:List Int):Prop:=∃c∈qe n a,∃d∈qe n b,k=qG U rs c++qG V rs d
variable {rs:List (List Int)}
theorem Ed {U:List Int}(c:List Int) (h:U.length=n):(qG U rs c).length=n:=by
 unfold qG
 rw[b7,AF,h]
theorem lE {rs:List (List Int)}{u v:List Int}:∀{i:Nat},∀b∈el rs u v i,∃j,j<i/\b=(u.getD j 0,N7 v (rs.getD j [])++u)
 | 0,b,hb=>by simp[el] at hb
 | i+1,b,hb=>by
  unfold el at hb
  rcases List.mem_append.mp hb with hb|hb
  ·obtain ⟨j,h1,h2⟩:=lE b hb
   exact ⟨j,by lia,h2⟩
  ·split at hb
   ·exact ⟨i,by lia,List.mem_singleton.mp hb⟩
   ·simp at hb
variable {T:v5}
theorem K2.step {a b:Nat}{U V:List Int}(hR:jW n 5 rs) (hU:U.length=n) (hV:V.length=n) (h:∀p∈T,K2 n rs U V a b p.1):∀p∈F1 n rs T [],K2 n rs V U (b+1) a p.1:=fun p hp=>by
 rcases eW hp with ⟨q,hq,x,hx,e⟩|⟨q,hq,_⟩
 ·obtain ⟨c,hc,d,hd,ek⟩:=h q hq
  obtain ⟨e1,e2⟩:=Z8 (v:=qG V rs d) (Ed (rs:=rs) c hU)
  rw[ek,e1,e2] at hx
  obtain ⟨j,hj,rfl⟩:=lE x hx
  refine ⟨EL d j,zw (List.mem_flatMap.mpr ⟨d,hd,List.mem_map.mpr ⟨j,List.mem_range.mpr hj,rfl⟩⟩),c,hc,?_⟩
  rw[e,BM hV (sC hd) hR hj]
 ·simp at hq
theorem Ea (hR:jW n 5 rs) (hu:u.length=n) (hv:v.length=n):∀{k:Nat},k<=4->∃U V a b,a<=2/\b<=2/\∀p∈ao n rs k [(u++v,1)],K2 n rs U V a b p.1:=by
 have h0:∀p∈ao n rs 0 [(u++v,1)],K2 n rs u v 0 0 p.1:=fun p hp=>by
  rw[List.mem_singleton.mp hp]
  exact ⟨_,List.mem_singleton.mpr rfl,_,List.mem_singleton.mpr rfl,by rw[sL,sL]⟩
 have h1:=K2.step hR hu hv h0
 have h2:=K2.step hR hv hu h1
 have h3:=K2.step hR hu hv h2
 have h4:=K2.step hR hv hu h3
 intro k hk
 have e:k=0 ∨ k=1 ∨ k=2 ∨ k=3 ∨ k=4:=by lia
 rcases e with rfl|rfl|rfl|rfl|rfl
 ·exact ⟨_,_,_,_,by decide,by decide,h0⟩
 ·exact ⟨_,_,_,_,by decide,by decide,h1⟩
 ·exact ⟨_,_,_,_,by decide,by decide,h2⟩
 ·exact ⟨_,_,_,_,by decide,by decide,h3⟩
 ·exact ⟨_,_,_,_,by decide,by decide,h4⟩
theorem qg {k:Nat}(hR:jW n 5 rs) (n1:1<=n) (n4:n<=4) (hu:Y9 n 20 u) (hv:Y9 n 20 v) (hk:k<=4):(ao n rs k [(u++v,1)]).length<128:=by
 have h2:=(gD hR n4 hu hv k (by lia)).2.1
 unfold bI at h2
 obtain ⟨U,V,a,b,ha,hb,h⟩:=Ea (u:=u) (v:=v) hR hu.len hv.len hk
 have l:=zq (m:=(qe n a).flatMap fun c=>(qe n b).map fun d=>qG U rs c++qG V rs d) h2 fun z hz=>by
  obtain ⟨p,hp,e⟩:=List.mem_map.mp hz
  obtain ⟨c,hc,d,hd,e2⟩:=h p hp
  exact List.mem_flatMap.mpr ⟨c,hc,List.mem_map.mpr ⟨d,hd,by rw[<- e,e2]⟩⟩
 have ln:∀(A B:List (List Int)),(A.flatMap fun c=>B.map fun d=>qG U rs c++qG V rs d).length=A.length*B.length:=fun A B=>by
  induction A with
  | nil=>simp
  | cons x A ih=>rw[List.flatMap_cons,n8,b7,ih,p4,Nat.add_mul];lia
 have key:∀n∈[1,2,3,4],∀k∈[0,1,2],(qe n k).length<=10:=by decide +kernel
 have c1:(qe n a).length<=10:=key n (by simp;lia) a (by simp;lia)
 have c2:(qe n b).length<=10:=key n (by simp;lia) b (by simp;lia)
 rw[b7,ln] at l
 have:=u4 c1 c2
 lia
noncomputable def kP (n:Nat) (k:List Int):KP:=(kI (k.take n),kI (k.drop n))
theorem lJ {a b:List Int} (h:kP n a=kP n b):a=b:=by
 have h1:=fe (congrArg Ey h)
 have h2:=fe (congrArg Prod.snd h)
 rw[<- y7 n a,<- y7 n b,h1,h2]
noncomputable def QP (n:Nat) (H:Hp):v5->PX->Prop:=bO fun p x=>x.1=kP n p.1/\tE H x.1 x.2.1/\H x.2.2=some (.tup ((fr p.2).map V.int))
variable {H H':Hp}{xs:PX}
theorem QP.mono (h:QP n H T xs) (t:∀a ys,H a=some (.tup ys)->H' a=some (.tup ys)):QP n H' T xs :=
 Paired.mapP h fun p x r=>⟨r.1,r.2.1.keep t,t _ _ r.2.2⟩
theorem QP.len (h:QP n H T xs):T.length=xs.length:=G3 h
theorem QP.pks (h:QP n H T xs):EN H xs:=by
 induction h with
 | nil=>exact fun _ z=>nomatch z
 | cons r _ ih =>
  intro x hx
  rcases List.mem_cons.mp hx with e|hx
  ·rw[e];exact r.2.1
  ·exact ih x hx
variable {k:List Int}
theorem QP.val {z:V} (hz:eB H 0 z) (h:QP n H T xs):eB H (Y7 T k) ((wC xs (kP n k)).elim z V.ref):=by
 induction h with
 | nil=>exact hz
 | @cons p x T xs r t ih =>
  unfold Y7 wC
  rw[O7]
  by_cases e:p.1=k
  ·rw[if_pos e,decide_eq_true (by rw[r.1,e])]
   exact ⟨_,rfl,r.2.2⟩
  ·rw[if_neg e,decide_eq_false (fun q=>e (lJ (r.1.symm.trans q)))]
   exact ih
theorem QP.any (h:QP n H T xs):(wC xs (kP n k)).isSome=decide (k∈T.map (·.1)):=by
 induction h with
 | nil=>simp[wC]
 | @cons p x T xs r t ih =>
  unfold wC at ih ⊢
  rw[O7]
  by_cases e:p.1=k
  ·rw[decide_eq_true (show x.1=kP n k by rw[r.1,e])]
   simp[e]
  ·rw[decide_eq_false (fun q=>e (lJ (r.1.symm.trans q)))]
   rw[ih]
   have e':¬ k=p.1:=fun z=>e z.symm
   simp[e']
variable {q:Addr}
theorem QP.keep (h:QP n H T xs) (hn:¬ k∈T.map (·.1)):xs.map (oz (kP n k) q)=xs:=by
 induction h with
 | nil=>rfl
 | @cons p x T xs r t ih =>
  rw[j8,y3,not_or] at hn
  rw[j8,ih hn.2]
  unfold oz
  rw[if_neg fun z=>hn.1 (lJ (r.1.symm.trans z)).symm]
theorem QP.snoc {x:Rat}{b:Addr} (hb:tE H (kP n k) b) (hq:H q=some (.tup ((fr x).map V.int))) (h:QP n H T xs):QP n H (T++[(k,x)]) (xs++[(kP n k,b,q)]):=by
 induction h with
 | nil=>exact .cons ⟨rfl,hb,hq⟩ .nil
 | cons r _ ih=>exact .cons r ih
theorem QP.put {x:Rat}{b:Addr} (hb:tE H (kP n k) b) (h:QP n H T xs) (hn:bI T) (hq:H q=some (.tup ((fr (Y7 T k+x)).map V.int))):QP n H (U9 T k x) (ug xs (kP n k) b q):=by
 unfold ug
 rw[h.any]
 by_cases hk:k∈T.map (·.1)
 ·rw[decide_eq_true hk,if_pos rfl]
  induction h with
  | nil=>simp at hk
  | @cons p y T xs r t ih =>
   unfold bI at hn
   rw[j8,K4] at hn
   unfold U9
   unfold Y7 at hq
   rw[j8]
   by_cases e:p.1=k
   ·rw[if_pos e]
    rw[if_pos e] at hq
    rw[QP.keep t (by rw[<- e];exact hn.1)]
    refine .cons ?_ t
    unfold oz
    rw[if_pos (by rw[r.1,e])]
    exact ⟨r.1,r.2.1,hq⟩
   ·rw[if_neg e]
    rw[if_neg e] at hq
    rw[j8,y3] at hk
    refine .cons ?_ (ih hn.2 hq (hk.resolve_left fun z=>e z.symm))
    unfold oz
    rw[if_neg fun z=>e (lJ (r.1.symm.trans z))]
    exact r
 ·rw[decide_eq_false hk,if_neg (by decide),qr T hk]
  rw[kc T hk,kB] at hq
  exact h.snoc hb hq
noncomputable def vC (H:Hp) (c:Addr):List Int:=match H c with
 | some (.tup xs)=>xs.map fun v=>match v with | .int i=>i|_=>0
 | _=>[]
theorem rq {c:Addr}(h:H c=some (.tup (u.map V.int))):vC H c=u:=by
 unfold vC
 rw[h]
 show (u.map V.int).map _=u
 rw[B6]
 exact HE u
noncomputable def xR (H:Hp) (a:Addr):List Int:=match H a with
 | some (.tup (.ref c::_))=>vC H c
 | _=>[]
noncomputable def xQ (H:Hp) (a:Addr):List Int:=match H a with
 | some (.tup (_::.ref d::_))=>vC H d
 | _=>[]
theorem ny {a c d:Addr}{tl:List V}(h:H a=some (.tup (.ref c::.ref d::tl))) (h1:H c=some (.tup (u.map V.int))) (h2:H d=some (.tup (v.map V.int))):xR H a=u/\xQ H a=v:=by
 unfold xR xQ
 rw[h]
 exact ⟨rq h1,rq h2⟩
noncomputable def R3 (n:Nat) (H:Hp):v5->List Addr->Prop:=bO fun p a=>∃c d q,H a=some (.tup [.ref c,.ref d,.ref q])/\H c=some (.tup ((p.1.take n).map V.int))/\H d=some (.tup ((p.1.drop n).map V.int))/\H q=some (.tup ((fr p.2).map V.int))
variable {as:List Addr}
theorem R3.mono (h:R3 n H T as) (t:∀a ys,H a=some (.tup ys)->H' a=some (.tup ys)):R3 n H' T as :=
 Paired.mapP h fun p x ⟨c,d,q,h1,h2,h3,h4⟩=>⟨c,d,q,t _ _ h1,t _ _ h2,t _ _ h3,t _ _ h4⟩
theorem af {α β:Type}{F:α->β->Prop}{a:α}{b:β} (r:F a b):∀{l:List α}{m:List β},bO F l m->bO F (l++[a]) (m++[b])
 | _,_,.nil=>.cons r .nil
 | _,_,.cons r' t=>.cons r' (af r t)
theorem jH {α β:Type}{F:α->β->Prop}{l:List α}{m m':List β} (h:bO F l m) (p:m'.Perm m):∃l',l'.Perm l/\bO F l' m':=by
 induction p generalizing l with
 | nil=>exact ⟨l,.refl _,h⟩
 | cons x _ ih =>
  cases h with
  | cons r t =>
   obtain ⟨l',p',h'⟩:=ih t
   exact ⟨_,p'.cons _,.cons r h'⟩
 | swap x y m =>
  cases h with
  | cons r t =>
   cases t with
   | cons r' t=>exact ⟨_,.swap _ _ _,.cons r' (.cons r t)⟩
 | trans _ _ ih1 ih2 =>
  obtain ⟨l1,p1,h1⟩:=ih2 h
  obtain ⟨l2,p2,h2⟩:=ih1 h1
  exact ⟨l2,p2.trans p1,h2⟩
theorem R3.keys (h:R3 n H T as):(as.map fun a=>xR H a++xQ H a)=T.map (·.1):=by
 induction h with
 | nil=>rfl
 | @cons p a T as r t ih =>
  obtain ⟨c,d,q,h1,h2,h3,_⟩:=r
  obtain ⟨e1,e2⟩:=ny h1 h2 h3
  rw[j8,j8,ih,e1,e2,y7]
theorem R3.trs (h:R3 n H T as) (hk:KU n m T) (hn:bI T):Eg H as n (xR H) (xQ H):=by
 have key:∀a∈as,∃p∈T,∃c d q,H a=some (.tup [.ref c,.ref d,.ref q])/\H c=some (.tup ((p.1.take n).map V.int))/\H d=some (.tup ((p.1.drop n).map V.int))/\H q=some (.tup ((fr p.2).map V.int)):=by
  clear hk hn
  induction h with
  | nil=>exact fun _ z=>nomatch z
  | @cons p a T as r t ih =>
   intro x hx
   rcases List.mem_cons.mp hx with e|hx
   ·rw[e];exact ⟨p,.head _,r⟩
   ·obtain ⟨p',hp',r'⟩:=ih x hx
    exact ⟨p',.tail _ hp',r'⟩
 refine ⟨fun a ha=>?_,fun a ha=>?_,by rw[h.keys];exact hn⟩
 ·obtain ⟨p,_,c,d,q,h1,h2,h3,_⟩:=key a ha
  obtain ⟨e1,e2⟩:=ny h1 h2 h3
  rw[e1,e2]
  exact ⟨c,d,_,h1,h2,h3⟩
 ·obtain ⟨p,hp,c,d,q,h1,h2,h3,_⟩:=key a ha
  obtain ⟨e1,e2⟩:=ny h1 h2 h3
  rw[e1]
  exact (hk p hp).one.len
theorem R3.sorted {as':List Addr} (h:R3 n H T as) (p:as'.Perm as) (o:as'.Pairwise (fun a b=>HT.E7 (xR H b++xQ H b) (xR H a++xQ H a)=false)) (g:j4 H H'):∃T':v5,T'.Perm T/\jA T'/\R3 n H' T' as':=by
 obtain ⟨T',pT,h'⟩:=jH h p
 refine ⟨T',pT,?_,R3.mono h' fun a ys e=>g _ _ e⟩
 unfold jA
 rw[<- R3.keys h',L6]
 exact o
noncomputable def mM (n:Nat) (T:v5):v5:=T.map fun p=>(p.1.drop n++p.1.take n,p.2)
noncomputable def tw (n:Nat) (rs:List (List Int)) (k:Nat) (u v:List Int):v5:=if k % 2=1 then mM n (ao n rs k [(u++v,1)]) else ao n rs k [(u++v,1)]
theorem yu (h:KU n m T):KU n m (mM n T):=fun p hp=>by
 obtain ⟨q,hq,rfl⟩:=List.mem_map.mp hp
 exact Uu.of (h q hq).two (h q hq).one
theorem yt (h:KU n m T) (hn:bI T):bI (mM n T):=by
 unfold bI mM at *
 rw[B6]
 have:(T.map (·.1)).map (fun k=>k.drop n++k.take n)=T.map ((fun x:List Int × Rat=>x.1) ∘ fun p=>(p.1.drop n++p.1.take n,p.2)):=by rw[B6];rfl
 rw[<- this]
 refine List.pairwise_map.mpr (Q4 (fun {a b} ha hb hab e=>?_) hn)
 obtain ⟨p,hp,rfl⟩:=List.mem_map.mp ha
 obtain ⟨q,hq,rfl⟩:=List.mem_map.mp hb
 have l1:=(h p hp).two.len
 have l2:=(h q hq).two.len
 have e1:=congrArg (gQ n) e
 have e2:=congrArg (gS n) e
 rw[(Z8 l1).1,(Z8 l2).1] at e1
 rw[(Z8 l1).2,(Z8 l2).2] at e2
 exact hab (by rw[<- y7 n p.1,<- y7 n q.1,e1,e2])
end M8
namespace L2
open PySem PySem.Spec PyProof.Rows HP
theorem EM {A:r6}{k:Nat} (hr:cH k A):A.units+2<R8:=F3 (Ai (by decide:2<=64) _) hr.units
variable {P:f6}{w:j6}{H:Hp}
theorem uR {d:Addr}{o:Obj}{xs:PX}{g:TG}{tb:TS}{D:mG}{σ:St}(Pv:Nat->St->Hp->Prop) (h0:Pv 0 σ H) (hl:∀i σ H,i<=xs.length->Pv i σ H->H d=some (.frz o (G2 P w d xs)))
  (hs:∀i x σ H p,xs[i]?=some x->H p=none->Pv i σ H->g (.ref p) σ (v8 H p (.tup [.ref x.2.1,.ref x.2.2])) fun σ2 H2=>tb { D with nx:=Pv (i+1),ct:=Pv (i+1),bk:=D.nx } σ2 H2) (hd:∀σ H,Pv xs.length σ H->D.nx σ H):
  ∃W:Nat->Nat->St->Hp->Prop,(∃m,W 0 m σ H)/\∀i m σ H,W i m σ H ->
   ((Eo P w d o xs).stop i H/\D.nx σ H) ∨ ((Eo P w d o xs).go i H/\∃N:St->Hp->Prop,(∀σ' H',N σ' H'->∃m',m'<m/\W (i+1) m' σ' H')/\∀x H',(Eo P w d o xs).yld i H x H'->g x σ H' fun σ2 H2=>tb { D with nx:=N,ct:=N,bk:=D.nx } σ2 H2):=by
 refine ⟨fun i m σ H=>m=xs.length - i/\i<=xs.length/\Pv i σ H,⟨xs.length,by simp,j5 _,h0⟩,?_⟩
 rintro i m σ H ⟨rfl,hi,p⟩
 have q:=hl i σ H hi p
 rcases Ih i xs.length with h|h
 ·refine .inr ⟨⟨q,h⟩,Pv (i+1),fun σ' H' p'=>⟨_,by lia,rfl,by lia,p'⟩,fun x H' y=>?_⟩
  obtain ⟨pp,z,hp,rfl,rfl,hx⟩:=y
  exact hs i z σ H pp hx hp p
 ·have e:i=xs.length:=by lia
  subst e
  exact .inl ⟨⟨q,d9 _⟩,hd σ H p⟩
theorem xy {K:m6}{a:Addr}{xs:List V}{g:TG}{tb:TS}{D:mG}{σ:St}(Pv:Nat->St->Hp->Prop) (h0:Pv 0 σ H) (hl:∀i σ H,i<=xs.length->Pv i σ H->bV K H a xs)
  (hs:∀i x σ H p,xs[i]?=some x->H p=none->Pv i σ H->g (.ref p) σ (v8 H p (.tup [.int i,x])) fun σ2 H2=>tb { D with nx:=Pv (i+1),ct:=Pv (i+1),bk:=D.nx } σ2 H2) (hd:∀σ H,Pv xs.length σ H->D.nx σ H):
  ∃W:Nat->Nat->St->Hp->Prop,(∃m,W 0 m σ H)/\∀i m σ H,W i m σ H ->
   ((GU K a).stop i H/\D.nx σ H) ∨ ((GU K a).go i H/\∃N:St->Hp->Prop,(∀σ' H',N σ' H'->∃m',m'<m/\W (i+1) m' σ' H')/\∀x H',(GU K a).yld i H x H'->g x σ H' fun σ2 H2=>tb { D with nx:=N,ct:=N,bk:=D.nx } σ2 H2):=by
 refine ⟨fun i m σ H=>m=xs.length - i/\i<=xs.length/\Pv i σ H,⟨xs.length,by simp,j5 _,h0⟩,?_⟩
 rintro i m σ H ⟨rfl,hi,p⟩
 have q:=hl i σ H hi p
 rcases Ih i xs.length with h|h
 ·refine .inr ⟨⟨xs,xs[i],q,by simp[h]⟩,Pv (i+1),fun σ' H' p'=>⟨_,by lia,rfl,by lia,p'⟩,fun x H' y=>?_⟩
  obtain ⟨pp,z,hp,rfl,rfl,hx⟩:=y
  exact hs i z σ H pp (hx xs q) hp p
 ·have e:i=xs.length:=by lia
  subst e
  exact .inl ⟨⟨xs,q,d9 _⟩,hd σ H p⟩
theorem uZ {K:m6}{d:Addr}{o:Obj}{xs:PX}{σ0:St}{te:TE}{F:List V->Hp->Prop} (hn:xs.length<=i8) (Pv:Nat->List V->Hp->Prop) (h0:Pv 0 [] H) (hl:∀i ys H,Pv i ys H->ys.length<=i)
  (hq:∀i ys H,i<=xs.length->Pv i ys H->H d=some (.frz o (G2 P w d xs))/\EN H xs) (hσ:σ0[0]?=some none/\σ0[1]?=some none/\σ0[2]?=some none)
  (hs:∀i ys H x c e p,xs[i]?=some x->H p=none->H x.2.1=some (.tup [.ref c,.ref e])->H c=some (.tup (x.1.1.map kV))->H e=some (.tup (x.1.2.map kV))->Pv i ys H->te (((σ0.set 0 (some (.ref c))).set 1 (some (.ref e))).set 2 (some (.ref x.2.2))) (v8 H p (.tup [.ref x.2.1,.ref x.2.2])) (fun z H'=>Pv (i+1) (ys++[z]) H'))
  (hd:∀ys H,Pv xs.length ys H->F ys H):Ac (Eo P w d o xs) σ0 (pW K 2 (bL (pW K 2 (bL (T6 0) (bL (T6 1) sf))) (bL (T6 2) sf))) M0 te H F:=by
 refine ⟨fun i m ys H=>m=xs.length - i/\i<=xs.length/\Pv i ys H,⟨xs.length,by simp,j5 _,h0⟩,?_⟩
 rintro i m ys H2 ⟨rfl,hi,p⟩
 obtain ⟨q,qk⟩:=hq i ys H2 hi p
 have hlen:=hl i ys H2 p
 refine ⟨by lia,?_⟩
 by_cases hlt:i<xs.length
 ·refine .inr ⟨⟨q,hlt⟩,fun y H'=>Pv (i+1) (ys++[y]) H',fun H'=>False,fun y H' q=>⟨xs.length - (i+1),by lia,rfl,hlt,q⟩,fun H' q=>q.elim,fun v H3 yld=>?_⟩
  obtain ⟨r,x,hr,rfl,rfl,hx⟩:=yld
  obtain ⟨c,e,h1,h2,h3⟩:=qk x (t7 hx)
  exact ⟨r,[.ref x.2.1,.ref x.2.2],rfl,.of i6,rfl,.ref x.2.1,[.ref x.2.2],rfl,_,[.ref c,.ref e],rfl,.of (by rw[A3 (u3 h1 hr)];exact h1),rfl,_,_,rfl,_,_,rfl,rfl,_,_,rfl,rfl,wk3 hσ _ _ _,hs i ys _ x c e r hx hr h1 h2 h3 p⟩
 ·have e:i=xs.length:=by lia
  subst e
  exact .inl ⟨⟨q,d9 _⟩,hd ys H2 p⟩
theorem yV {X:Cx}{o e:Expr}{pos:Pos}{td ty:TE} (hP:X.prog=P) (hw:X.w=w) (hu:X.A.units+2<R8) (ho:PE X o td) (hi:PE X e ty) (hs:BU e):PE X (.Subscript o e pos) (Ck P w td ty):=by
 subst hP hw;exact Bg hu ho hi hs
end L2
namespace G
open PySem PySem.Spec PyProof.Rows L2 Mt Md Mq M8 HP
structure CtW (mg:Str->Option b8):Prop where
 two:∃t,mg "MOST_TWO_DRAWS"=some (.int 4 t)
mutual
theorem qy {l T:Addr}{H:Hp}{φ:Heap->Prop} (hT:H T=some (.ext φ)):∀{d:w6}{v:V},Dt l H d v->Dt T H d v
 | .none,_,h=>by unfold Dt at h ⊢;exact h
 | .bool _,_,h=>by unfold Dt at h ⊢;exact h
 | .int _,_,h=>by unfold Dt at h ⊢;exact h
 | .str _,_,h=>by unfold Dt at h ⊢;exact h
 | .tuple ds,_,h=>by
  unfold Dt at h ⊢
  refine match h with|⟨a,xs,e,n,q,r⟩=>?_
  exact ⟨a,xs,e,(fun z=>by rw[z,hT] at q;cases q),q,qw hT r⟩
 | .list ds,_,h=>by
  unfold Dt at h ⊢
  refine match h with|⟨a,xs,e,n,q,r⟩=>?_
  exact ⟨a,xs,e,(fun z=>by rw[z,hT] at q;cases q),q,qw hT r⟩
 | .dict kvs,_,h=>by
  unfold Dt at h ⊢
  refine match h with|⟨z,a,e,n,q⟩=>?_
  exact ⟨z,a,e,(fun z=>by rw[z,hT] at q;cases q),q⟩
theorem qw {l T:Addr}{H:Hp}{φ:Heap->Prop} (hT:H T=some (.ext φ)):∀{ds:List w6}{xs:List V},Q6 l H ds xs->Q6 T H ds xs
 | [],_,h=>by unfold Q6 at h ⊢;exact h
 | d::ds,_,h=>by
  unfold Q6 at h ⊢
  refine match h with|⟨x,r,e,q1,q2⟩=>?_
  exact ⟨x,r,e,qy hT q1,qw hT q2⟩
end
theorem cz {l:Addr}{H H':Hp}{o:HO} (hl:H l=some o) (ho:∀xs,o≠.tup xs) (k:Kp l H H'):∀a xs,H a=some (.tup xs)->H' a=some (.tup xs):=fun a xs e=>k a _ (fun z=>by rw[z,hl] at e;injection e with e;exact ho _ e) e
theorem cN:T7 "sorted"=some (Value.builtin "sorted"):=by decide +kernel
section
variable {P:f6}{w:j6}{K:m6}{mg:Str->Option b8}{base:Heap}{f:Addr}{fd:A7}{ec:Nat->Addr}{Bs:Addr}
noncomputable def mH (d e r g:w6) (i:Nat):Prop:=(i=0/\(br 20 d=false ∨ br 20 e=false)) ∨ (i=8/\br 20 d=true/\br 20 e=true/\bA d≠bA e) ∨
 (i=1/\br 20 d=true/\br 20 e=true/\bA d=bA e/\fM (bA d) r=false) ∨ (i=5/\br 20 d=true/\br 20 e=true/\bA d=bA e/\fM (bA d) r=true/\X3 0 4 g=false)
noncomputable def GN (d e r g:w6):Prop:=br 20 d=true/\br 20 e=true/\bA d=bA e/\fM (bA d) r=true/\X3 0 4 g=true
noncomputable def yx (ec:Nat->Addr):Sp:=fun vs H Q E=>∃(u v x y:V) (st:Addr) (d e r g:w6),vs=[u,v,x,y]/\Dt st H d u/\cn d/\Dt st H e v/\cn e/\Dt st H r x/\DH r/\Dt st H g y /\
 (∀i,mH d e r g i->∀H',j4 H H'->E (.ref (ec i)) none H')/\(GN d e r g->∀H',j4 H H'->Q .non H')
noncomputable abbrev Dn:Stmt:=ef 38
theorem FN:A2 ["one","other","rule","draws"] ["one","other","rule","draws"] (u0 Dn):=⟨rfl,rfl,rfl,by decide +kernel,rfl,by decide +kernel,by decide +kernel⟩
theorem Gr (F:bC K "need_two" "need_two" Dn f fd) (B:Bt mg) (C2:CtW mg) (R:sR K mg ec Bs) (c1:Z9 P w K mg base 5 "need_urn" ["thing"] (cI ec)) (c2:Z9 P w K mg base 4 "need_rule" ["kinds","thing"] (bR ec)) (c3:Z9 P w K mg base 2 "need_number" ["thing","low","high"] (az ec)):L3 P w K mg base (jY P w) 6 f fd ["one","other","rule","draws"] (yx ec):=by
 refine F.okX FN (fun vs H Q E h=>?_) (fun cdv A outer s H vs Q E hr h=>?_)
 ·refine match h with|⟨u,v,x,y,st,d,e,r,g,e_s1,_⟩=>?_
  subst e_s1
  rfl
 refine match h with|⟨u,v,x,y,st,d,e,r,g,e_s1,hu,hus,hv,hvs,hx,hxo,hy,qE,qQ⟩=>?_
 subst e_s1
 obtain ⟨tw,hW⟩:=C2.two
 refine ⟨_,m9 (bS (O6 c1 hr rfl aA (b6 (pv 0) d8))) (m9 (bS (O6 c1 hr rfl aA (b6 (pv 1) d8)))
  (m9 (T5 (P7 zc (A0 J6 rfl B.len J9 (b6 (pv 0) d8)) (A0 J6 rfl B.len J9 (b6 (pv 1) d8)) (N4 _)) (q5 (dj R.e8 (R.xc 8 (by decide)) uq (fun σ H Q Q' m q=>m _ _ q))) J1)
  (m9 (bS (O6 (c2.up (by decide)) hr rfl aA (b6 (A0 J6 rfl B.len J9 (b6 (pv 0) d8)) (b6 (pv 2) d8))))
  (q5 (bS (O6 (c3.up (by decide)) hr rfl aA (b6 (pv 3) (b6 j9 (b6 (hZ (v:=.int 4) rfl hW ⟨tw,rfl⟩) d8))))))))),?_⟩
 refine ⟨_,rfl,u,st,d,rfl,hu,hus,fun hw H1 g1=>?_,fun z=>qE 0 (.inl ⟨rfl,.inl z⟩)⟩
 refine ⟨_,rfl,v,st,e,rfl,hv.kp (g1.kp st),hvs,fun hw2 H2 g2=>?_,fun z H2 g2=>qE 0 (.inl ⟨rfl,.inr z⟩) H2 (g1.trans g2)⟩
 refine match fo hw with|⟨ns,e1,l1,l4,_⟩=>?_
 subst e1
 refine match hu.di with|⟨a,e2,_,ha⟩=>?_
 subst e2
 refine match fo hw2 with|⟨ms,e3,m1,m4,_⟩=>?_
 subst e3
 refine match hv.di with|⟨b,e4,_,hb⟩=>?_
 subst e4
 have g12:=g1.trans g2
 unfold mH at qE
 unfold GN at qQ
 rw[aD,aD] at qE qQ
 refine ⟨_,rfl,a,_,rfl,.inr (.of (g12 _ _ ha)),_,rfl,b,_,rfl,.inr (.of (g12 _ _ hb)),?_⟩
 rw[b7,b7]
 by_cases hl:ns.length=ms.length
 ·refine ⟨rfl,_,rfl,?_⟩
  dsimp only
  rw[decide_eq_true (show V.int (ns.length:Int)=V.int (ms.length:Int) by rw[hl])]
  refine ⟨_,rfl,a,_,rfl,.inr (.of (g12 _ _ ha)),_,rfl,x,st,r,(ns.length:Int),(by rw[b7]),by lia,by lia,hx.kp (g12.kp st),hxo,fun hr2 H3 g3=>?_,fun hr2 H3 g3=>qE 1 (.inr (.inr (.inl ⟨rfl,hw,hw2,hl,hr2⟩))) H3 (g12.trans g3)⟩
  exact ⟨_,rfl,y,st,g,0,4,rfl,hy.kp ((g12.trans g3).kp st),sm_0,(by unfold Sm;decide +kernel),(fun z=>qQ ⟨hw,hw2,hl,hr2,z⟩ H3 (g12.trans g3)),fun z=>qE 5 (.inr (.inr (.inr ⟨rfl,hw,hw2,hl,hr2,z⟩))) H3 (g12.trans g3)⟩
 ·refine ⟨rfl,_,rfl,?_⟩
  dsimp only
  rw[decide_eq_false (show ¬ V.int (ns.length:Int)=V.int (ms.length:Int) from fun z=>hl (by injection z with z;lia))]
  exact qE 8 (.inr (.inl ⟨rfl,hw,hw2,hl⟩)) H2 g12
noncomputable def tS (P:f6) (w:j6):Sp:=fun vs H Q _=>∃(d st:Addr) (v:V) (n m N E:Nat) (T:v5) (xs:PX) (rs:List (List Int)),vs=[.ref d,v]/\H d=some (G2 P w d xs)/\QP n H T xs/\KU n m T/\m<=45/\T.length<=256/\aF N E T/\0<N/\N<=2 ^ 1600/\E<=2 ^ 60/\Dt st H (DR rs) v/\Mt.jW n 5 rs/\n<=4 /\
 ∀p xs' H',Kp d H H'->H p=none->H' p=some (G2 P w p xs')->QP n H' (F1 n rs T []) xs'->Q (.ref p) H'
noncomputable abbrev yD:Stmt:=ef 39
theorem dN:A2 ["chances","rule","later","drawn","fed","so_far","kind","balls","behind","part"] ["chances","rule"] (u0 yD):=⟨rfl,rfl,rfl,by decide +kernel,rfl,by decide +kernel,by decide +kernel⟩
theorem DE (F:bC K "next_chances_of_two" "next_chances_of_two" yD f fd) (B:Bt mg) (B3:GX mg) (c1:U4 P w K mg base 1 "put_in" ["urn","rule","kind"] iV) (c2:U4 P w K mg base 3 "times" ["one","other"] bt) (c3:U4 P w K mg base 3 "share" ["urn","kind"] eG) (c4:U4 P w K mg base 3 "plus" ["one","other"] aw):L3 P w K mg base dA 4 f fd ["chances","rule"] (tS P w):=by
 refine F.ok dN (fun vs H Q E h=>?_) (fun cdv A outer s H vs Q E hr h=>?_)
 ·refine match h with|⟨d,st,v,n,m,N,E,T,xs,rs,e_s1,_⟩=>?_
  subst e_s1
  rfl
 refine match h with|⟨d,st,v,n,m,N,En,T,xs,rs,e_s1,hd,hQ,hK,hm,hT,hE,hN0,hN,hEn,hv,hR,n4,q⟩=>?_
 subst e_s1
 refine ⟨_,(@m9 _ _ _ _ _ (@G4 _ _ 2 _ _ _ _ dN.nd rfl (t5 rfl) vK (by rfl) (by first|exact .inl rfl|exact .inr rfl))
  (@m9 _ _ _ _ _ (bH E3 rfl (jc (pv 0)) (je rfl (v9 (je rfl (v9 (O0 (i:=3) dN.nd rfl (t5 rfl)) (v9 (O0 (i:=4) dN.nd rfl (t5 rfl)) R5))) (v9 (O0 (i:=5) dN.nd rfl (t5 rfl)) R5)))
  (@q5 _ _ _ (bH E3 rfl (yU rfl B3.enumerate (@b6 _ _ _ _ _ (pv 3) d8 (by rfl))) (je rfl (v9 (O0 (i:=6) dN.nd rfl (t5 rfl)) (v9 (O0 (i:=7) dN.nd rfl (t5 rfl)) R5)))
  (@q5 _ _ _ (T5 (@P7 _ _ _ _ _ _ _ _ rJ (pv 7) j9 (N4 _)) (@m9 _ _ _ _ _ (@G4 _ _ 8 _ _ _ _ dN.nd rfl (t5 rfl) (@O5 _ _ _ _ _ (@b6 _ _ _ _ _ (w5 (c1.up (by decide)) hr rfl (@b6 _ _ _ _ _ (pv 4) (@b6 _ _ _ _ _ (pv 1) (@b6 _ _ _ _ _ (pv 6) d8 (by rfl)) (by rfl)) (by rfl))) (@b6 _ _ _ _ _ (pv 3) d8 (by rfl)) (by rfl))) (by rfl) (by first|exact .inl rfl|exact .inr rfl))
  (@m9 _ _ _ _ _ (@G4 _ _ 9 _ _ _ _ dN.nd rfl (t5 rfl) (w5 c2 hr rfl (@b6 _ _ _ _ _ (pv 5) (@b6 _ _ _ _ _ (w5 c3 hr rfl (@b6 _ _ _ _ _ (pv 3) (@b6 _ _ _ _ _ (pv 6) d8 (by rfl)) (by rfl))) d8 (by rfl)) (by rfl))) (by rfl) (by first|exact .inl rfl|exact .inr rfl))
  (@q5 _ _ _ (vH (EM hr) (pv 2) (pv 8) (w5 c4 hr rfl (@b6 _ _ _ _ _ (rG (EM hr) (pv 2) (pv 8) (@O5 _ _ _ _ _ (@b6 _ _ _ _ _ j9 (@b6 _ _ _ _ _ j9 d8 (by rfl)) (by rfl))) ⟨rfl,rfl,rfl,rfl⟩) (@b6 _ _ _ _ _ (pv 9) d8 (by rfl)) (by rfl))) rfl)))) J1)))))
  (@q5 _ _ _ (B8 (pv 2))))),?_⟩
 have hv0:Dt d H (DR rs) v:=qy hd hv
 have ndt:∀a ps ys,G2 P w a ps≠.tup ys:=fun _ _ _ z=>by unfold G2 at z;cases z
 intro lt hlt
 have nlt:d≠lt:=u3 hd hlt
 refine ⟨_,rfl,d,xs,rfl,(by rw[A3 nlt];exact hd),fun o=>?_⟩
 have k0:Kp d H (v8 (v8 H lt (G2 P w lt [])) d (.frz o (G2 P w d xs))):=fun b u nb e=>by rw[A3 nb,A3 (u3 e hlt)];exact e
 refine uR (o:=o) (fun i σ H2=>Kp d H H2/\H2 d=some (.frz o (G2 P w d xs))/\(∃ys,H2 lt=some (G2 P w lt ys)/\QP n H2 (F1 n rs (T.take i) []) ys)/\i<=T.length/\∃o3 o4 o5 o6 o7 o8 o9,σ=[some (.ref d),some v,some (.ref lt),o3,o4,o5,o6,o7,o8,o9])
  ⟨k0,i6,⟨[],by rw[A3 nlt.symm];exact i6,.nil⟩,j5 _,none,none,none,none,none,none,none,rfl⟩ (fun i σ H2 _ h=>h.2.1) (fun i x σ H2 p hx hp h=>?_) (fun σ H2 h=>?_)
 ·refine match h with|⟨k2,hd2,⟨ys2,hl2,hq2⟩,hi,o3,o4,o5,o6,o7,o8,o9,e_s1⟩=>?_
  subst e_s1
  have hil:i<T.length:=by rw[hQ.len];exact (List.getElem?_eq_some_iff.mp hx).1
  refine match Paired.get hQ (d0 hil) with|⟨x',hx',ek,⟨c,e,hk1,hk2,hk3⟩,hfr⟩=>?_
  rw[hx] at hx'
  cases hx'
  generalize hum:T[i]=um at ek hfr
  have hmem:um∈T:=by rw[<- hum];exact C4 hil
  have hum':T[i]?=some um:=by rw[d0 hil,hum]
  obtain ⟨kk,mm⟩:=um
  have hku:=hK (kk,mm) hmem
  have hmm:Vq N En mm:=hE (kk,mm) hmem
  obtain ⟨uu,euu⟩:∃uu,uu=kk.take n:=⟨_,rfl⟩
  obtain ⟨vv,evv⟩:∃vv,vv=kk.drop n:=⟨_,rfl⟩
  have hU:Y9 n m uu:=by rw[euu];exact hku.one
  have hV:Y9 n m vv:=by rw[evv];exact hku.two
  have t2:=cz hd (ndt _ _) k2
  rw[ek] at hk2 hk3
  have hc2:H2 c=some (.tup (uu.map V.int)):=t2 _ _ (by rw[hk2,euu];show some (HO.tup ((kI (kk.take n)).map kV))=_;rw[bK])
  have he2:H2 e=some (.tup (vv.map V.int)):=t2 _ _ (by rw[hk3,evv];show some (HO.tup ((kI (kk.drop n)).map kV))=_;rw[bK])
  have hb2:=t2 _ _ hk1
  have hf2:H2 x.2.2=some (.tup ((fr mm).map V.int)):=t2 _ _ hfr
  have g3:j4 H2 (v8 H2 p (.tup [.ref x.2.1,.ref x.2.2])):=j4.new hp
  refine ⟨p,_,rfl,.of i6,rfl,_,_,rfl,⟨_,_,rfl,.of (g3 _ _ hb2),rfl,_,_,rfl,_,_,rfl,rfl,?_⟩⟩
  refine ⟨_,_,rfl,rfl,?_⟩
  show FE _ _ _ _ _ (v8 H2 p (.tup [.ref x.2.1,.ref x.2.2]))
  generalize v8 H2 p (.tup [.ref x.2.1,.ref x.2.2])=H3 at g3
  have k3:Kp d H H3:=k2.trans (g3.kp d)
  have hc3:=g3 _ _ hc2
  have he3:=g3 _ _ he2
  have hf3:=g3 _ _ hf2
  have hl3:=g3 _ _ hl2
  have hd3:=g3 _ _ hd2
  have hq3:QP n H3 (F1 n rs (T.take i) []) ys2:=hq2.mono fun a zs e=>g3 _ _ e
  refine match jk (D:=[]) (B:=0) hR n4 (by lia) (T.take i) (fun q hq=>hK q (v7 hq)) (fun q hq=>hE q (v7 hq)) (fun p hp=>by simp at hp) (by unfold bI;simp) (fun p hp=>by simp at hp) with|⟨kk1,kk2,kk3,kk4⟩=>?_
  have hti:(T.take i).length<=256:=by rw[m8];lia
  have hle:(F1 n rs (T.take i) []).length<=4*256:=f9 kk4 (by rw[M4,S6];exact u4 n4 hti)
  have hs0:=hU.pos
  have hs1:=fq hU n4 (by lia)
  refine ⟨_,rfl,c,_,rfl,.of hc3,?_⟩
  refine xy (K:=K) (a:=c) (xs:=uu.map V.int) (fun j σ H5=>Kp lt H3 H5/\(∃ys,H5 lt=some (G2 P w lt ys)/\QP n H5 (K9 mm uu.sum (el rs uu vv j) (F1 n rs (T.take i) [])) ys)/\j<=n/\∃o6 o7 o8 o9,σ=[some (.ref d),some v,some (.ref lt),some (.ref c),some (.ref e),some (.ref x.2.2),o6,o7,o8,o9])
   ⟨Kp.refl _ _,⟨ys2,hl3,hq3⟩,j5 _,o6,o7,o8,o9,rfl⟩ (fun j σ H5 _ h=>.of (h.1 _ _ (rQ hc3 hl3 (ndt _ _ _).symm) hc3)) (fun j b σ H5 p5 hb hp5 h=>?_) (fun σ H5 h=>?_)
  ·refine match h with|⟨k5,⟨ys5,hl5,hq5⟩,hj,o6,o7,o8,o9,e_s1⟩=>?_
   subst e_s1
   have hjn:j<n:=by have:=(List.getElem?_eq_some_iff.mp hb).1;rw[b7,hU.len] at this;exact this
   have eb:b=.int (uu.getD j 0):=by
    rw[m7] at hb
    rw[t8]
    cases hz:uu[j]? with
    | none=>rw[hz] at hb;cases hb
    | some z=>rw[hz] at hb;cases hb;rfl
   subst eb
   have g6:j4 H5 (v8 H5 p5 (.tup [.int j,.int (uu.getD j 0)])):=j4.new hp5
   refine ⟨p5,_,rfl,.of i6,rfl,_,_,rfl,_,_,rfl,rfl,?_⟩
   dsimp only
   generalize v8 H5 p5 (.tup [.int j,.int (uu.getD j 0)])=H6 at g6
   have t36:∀a zs,H3 a=some (.tup zs)->H6 a=some (.tup zs):=fun a zs e=>g6 _ _ (cz hl3 (ndt _ _) k5 _ _ e)
   have k6:Kp lt H3 H6:=k5.trans (g6.kp lt)
   have hl6:=g6 _ _ hl5
   have hq6:QP n H6 (K9 mm uu.sum (el rs uu vv j) (F1 n rs (T.take i) [])) ys5:=hq5.mono fun a zs e=>g6 _ _ e
   refine ⟨_,rfl,_,_,rfl,rfl,_,rfl,?_⟩
   by_cases hpos:0<uu.getD j 0
   ·rw[decide_eq_true hpos]
    refine bB ?_
    refine match hH (W:=Uu n (m+5)) hmm hs0 hs1 (el rs uu vv j) (fun b hb=>have z:=pJ hR hU hV (O3 hjn) b hb;⟨z.1,z.2.1⟩) kk1 kk2 kk3 with|⟨pp1,pp2,pp3,pp4⟩=>?_
    have hjt:=pP rs uu vv j
    have hlen:(K9 mm uu.sum (el rs uu vv j) (F1 n rs (T.take i) [])).length<=10000:=by lia
    have cv:Vq LL 1 (cut (uu.getD j 0) uu.sum):=pZ (by lia) (ag hU j) hs0 hs1
    have cb:Bd 12 (cut (uu.getD j 0) uu.sum):=Bd.cut hs0 (by have:=ag hU j;show _<=4096;lia) (by show _<=4096;lia)
    have pv':Vq (N*LL) En (mm*cut (uu.getD j 0) uu.sum):=(hmm.mul cv).mono (by lia)
    have hNL:N*LL<=2 ^ 1900:=by
     have:(2:Nat) ^ 1900=2 ^ 1600*2 ^ 300:=by rw[<- D5]
     rw[this];exact u4 hN sQ
    have hNL0:0<N*LL:=aK hN0 lP
    have big:∀X:Nat,X<=2 ^ 60*2 ^ 13->N*LL*X<=2 ^ 1973:=fun X hX=>by
     have:(2:Nat) ^ 1973=2 ^ 1900*(2 ^ 60*2 ^ 13):=by rw[<- D5,<- D5]
     rw[this];exact u4 hNL hX
    have hNL2:N*LL<=2 ^ 1973:=f9 hNL (u6 (by decide) (by decide))
    have d1:Bd 1660 mm:=hmm.bd hN0 (by
     have:(2:Nat) ^ 1660=2 ^ 1600*2 ^ 60:=by rw[<- D5]
     rw[this];exact u4 hN hEn) (f9 hN (u6 (by decide) (by decide)))
    have d2:Bd 1973 (mm*cut (uu.getD j 0) uu.sum):=pv'.bd hNL0 (big _ (f9 hEn (Nat.le_mul_of_pos_right _ (by decide)))) hNL2
    have vvq:=pp3.val (k:=N7 vv (rs.getD j [])++uu)
    have d3:Bd 1973 (Y7 (K9 mm uu.sum (el rs uu vv j) (F1 n rs (T.take i) [])) (N7 vv (rs.getD j [])++uu)):=vvq.bd hNL0 (big _ (by
     have e1:0+En*(4*(T.take i).length)+En*(el rs uu vv j).length<=En*(2 ^ 13):=by
      rw[S6,<- V1];exact B0 _ (by lia)
     exact f9 e1 (Nat.mul_le_mul_right _ hEn))) hNL2
    have hc6:=t36 _ _ hc3
    have he6:=t36 _ _ he3
    have hf6:=t36 _ _ hf3
    have hlv:vv.length=n:=hV.len
    have hv6:Dt lt H6 (DR rs) v:=(qy hl3 (hv0.kp k3)).kp k6
    refine ⟨_,rfl,_,rfl,_,rfl,e,lt,v,n,5,vv,rs,j,rfl,he6,hlv,hv6,hR,n4,hjn,fun p7 H7 g7 hp7=>?_⟩
    refine ⟨_,rfl,by show 2<=i8;decide,fun p8 hp8=>?_⟩
    have g8:j4 H7 (v8 H7 p8 (.tup [.ref p7,.ref c])):=j4.new hp8
    have h88:v8 H7 p8 (.tup [.ref p7,.ref c]) p8=some (.tup [.ref p7,.ref c]):=i6
    try dsimp -proj only
    generalize v8 H7 p8 (.tup [.ref p7,.ref c])=H8 at g8 h88
    have g68:j4 H6 H8:=g7.trans g8
    refine ⟨_,rfl,_,rfl,_,rfl,c,n,m,uu,j,rfl,g68 _ _ hc6,hU,n4,by lia,hjn,fun p9 H9 g9 hp9=>?_⟩
    refine ⟨x.2.2,p9,mm,Mt.Q0 uu j,1660,12,rfl,g9 _ _ (g68 _ _ hf6),hp9,Rat.num_nonneg.mpr hmm.nn,Rat.num_nonneg.mpr cv.nn,d1,cb,by decide,fun p10 H10 g10 hp10=>?_⟩
    have g8a:j4 H8 H10:=g9.trans g10
    have g6a:j4 H6 H10:=g68.trans g8a
    have hla:(N7 vv (rs.getD j [])).length=n:=(hV.add (hR.at hjn)).len
    obtain ⟨et,ed⟩:=Z8 (v:=uu) hla
    have kpt:∀{H':Hp},j4 H10 H'->tE H' (kP n (N7 vv (rs.getD j [])++uu)) p8:=fun {H'} g=>by
     refine ⟨p7,c,g _ _ (g8a _ _ h88),?_,?_⟩
     ·unfold kP
      rw[et]
      show H' p7=some (.tup ((kI _).map kV))
      rw[bK];exact g _ _ (g8a _ _ (g8 _ _ hp7))
     ·unfold kP
      rw[ed]
      show H' c=some (.tup ((kI _).map kV))
      rw[bK];exact g _ _ (g6a _ _ hc6)
    refine ⟨_,rfl,lt,ys5,rfl,.inl (g6a _ _ hl6),_,rfl,(by show 2<=i8;decide),fun p11 hp11=>?_⟩
    have g11:j4 H10 (v8 H10 p11 (.tup [.int 0,.int 1])):=j4.new hp11
    have hz11:eB (v8 H10 p11 (.tup [.int 0,.int 1])) 0 (.ref p11):=⟨p11,rfl,i6⟩
    try dsimp -proj only
    generalize v8 H10 p11 (.tup [.int 0,.int 1])=H11 at g11 hz11
    have hq11:QP n H11 (K9 mm uu.sum (el rs uu vv j) (F1 n rs (T.take i) [])) ys5:=hq6.mono fun a zs e=>g11 _ _ (g6a _ _ e)
    refine match hq11.val (k:=N7 vv (rs.getD j [])++uu) hz11 with|⟨r11,er11,hr11⟩=>?_
    refine ⟨ys5,kP n (N7 vv (rs.getD j [])++uu),p8,.inl (g11 _ _ (g6a _ _ hl6)),hq11.pks,rfl,kpt g11,?_⟩
    rw[er11]
    refine ⟨_,rfl,r11,p10,_,mm*Mt.Q0 uu j,1973,1973,rfl,hr11,g11 _ _ hp10,Rat.num_nonneg.mpr vvq.nn,Rat.num_nonneg.mpr pv'.nn,d3,d2,by decide,fun p12 H12 g12 hp12=>?_⟩
    have g6c:j4 H6 H12:=g6a.trans (g11.trans g12)
    have hq12:QP n H12 (K9 mm uu.sum (el rs uu vv j) (F1 n rs (T.take i) [])) ys5:=hq11.mono fun a zs e=>g12 _ _ e
    refine ⟨_,rfl,_,rfl,lt,ys5,kP n (N7 vv (rs.getD j [])++uu),p8,p12,rfl,rfl,rfl,g6c _ _ hl6,hq12.pks,kpt (g11.trans g12),by rw[<- hq12.len];exact de hlen,?_⟩
    have hq13:=QP.put (x:=mm*Mt.Q0 uu j) (kpt (g11.trans g12)) hq12 pp2 hp12
    refine ⟨(k6.trans (g6c.kp lt)).trans Kp.at,⟨_,i6,?_⟩,hjn,_,_,_,_,rfl⟩
    have eu:el rs uu vv (j+1)=el rs uu vv j++[(uu.getD j 0,N7 vv (rs.getD j [])++uu)]:=by
     show el rs uu vv j++_=_
     rw[if_pos hpos]
    rw[eu,gq]
    exact hq13.mono (cz (g6c _ _ hl6) (ndt _ _) Kp.at)
   ·rw[decide_eq_false hpos]
    refine ak ?_
    refine ⟨k6,⟨ys5,hl6,?_⟩,hjn,_,_,_,_,rfl⟩
    have eu:el rs uu vv (j+1)=el rs uu vv j:=by
     show el rs uu vv j++_=_
     rw[if_neg hpos,W5]
    rw[eu]
    exact hq6
  ·refine match h with|⟨k5,⟨ys5,hl5,hq5⟩,_,o6,o7,o8,o9,e_s1⟩=>?_
   subst e_s1
   refine ⟨fun b o nb e=>k5 _ _ (u3 e hlt) (k3 _ _ nb e),k5 _ _ nlt hd3,⟨ys5,hl5,?_⟩,hil,_,_,_,_,_,_,_,rfl⟩
   rw[t6,hum']
   show QP n H5 (F1 n rs (T.take i++[(kk,mm)]) []) ys5
   rw[jI,<- euu,<- evv]
   rw[b7,hU.len] at hq5
   exact hq5
 ·refine match h with|⟨k2,hd2,⟨ys2,hl2,hq2⟩,_,o3,o4,o5,o6,o7,o8,o9,e_s1⟩=>?_
  subst e_s1
  rw[<- hQ.len,u5] at hq2
  exact ⟨_,rfl,q lt ys2 H2 k2 hlt hl2 hq2⟩
end
structure Es (st:Addr) (H:Hp) (n:Nat) (us ws:List Int) (rs:List (List Int)) (k:Nat) (a b:Addr) (v:V):Prop where
 u:Dt st H (DI us) (.ref a)
 uu:Mt.Y9 n 20 us
 w:Dt st H (DI ws) (.ref b)
 wu:Mt.Y9 n 20 ws
 r:Dt st H (DR rs) v
 ru:Mt.jW n 5 rs
 n1:1<=n
 n4:n<=4
 k4:k<=4
noncomputable def GK (ec:Nat->Addr) (vs:List V) (H:Hp) (E:XK):Prop:=∃(st:Addr) (u v x y:V) (d e r g:w6) (i:Nat),vs=[u,v,x,y]/\Dt st H d u/\cn d/\Dt st H e v/\cn e/\Dt st H r x/\DH r/\Dt st H g y/\mH d e r g i/\∀H',j4 H H'->E (.ref (ec i)) none H'
theorem mH.one {d e r g:w6}{i j:Nat} (h:mH d e r g i) (h':mH d e r g j):i=j:=by
 unfold mH at h h'
 rcases h with ⟨rfl,h⟩|⟨rfl,h1,h2,h3⟩|⟨rfl,h1,h2,h3,h4⟩|⟨rfl,h1,h2,h3,h4,h5⟩ <;> rcases h' with ⟨rfl,z⟩|⟨rfl,z1,z2,z3⟩|⟨rfl,z1,z2,z3,z4⟩|⟨rfl,z1,z2,z3,z4,z5⟩ <;> simp_all
theorem mH.no {d e r g:w6}{i:Nat} (h:mH d e r g i) (h':GN d e r g):False:=by
 unfold mH at h
 unfold GN at h'
 refine match h' with|⟨z1,z2,z3,z4,z5⟩=>?_
 rcases h with ⟨rfl,h⟩|⟨rfl,h1,h2,h3⟩|⟨rfl,h1,h2,h3,h4⟩|⟨rfl,h1,h2,h3,h4,h5⟩ <;> simp_all
theorem zY {P:f6}{w:j6}{K:m6}{d:Addr}{o:Obj}{xs:PX}{n m:Nat}{T:v5}{H:Hp}{F:List V->Hp->Prop} (sw:Bool) (hQ:QP n H T xs) (hK:KU n m T) (hd:H d=some (.frz o (G2 P w d xs))) (hl:xs.length<=i8)
  (fin:∀as H',Kp d H H'->R3 n H' (bif sw then mM n T else T) as->F (as.map V.ref) H'):
  Ac (Eo P w d o xs) [none,none,none] (pW K 2 (bL (pW K 2 (bL (T6 0) (bL (T6 1) sf))) (bL (T6 2) sf))) M0 (Fv (qS (yq (bif sw then 1 else 0)) (qS (yq (bif sw then 0 else 1)) (qS (yq 2) CU)))) H F:=by
 have nfz:∀ys,HO.frz o (G2 P w d xs)≠.tup ys:=fun _ z=>by cases z
 have hlT:(bif sw then mM n T else T).length=T.length:=by cases sw <;> simp[mM]
 refine uZ hl (fun i ys H5=>Kp d H H5/\H5 d=some (.frz o (G2 P w d xs))/\∃as:List Addr,ys=as.map V.ref/\as.length=i/\R3 n H5 ((bif sw then mM n T else T).take i) as) ⟨Kp.refl _ _,hd,[],rfl,rfl,.nil⟩ (fun i ys H5 h=>?_) (fun i ys H5 _ h=>⟨h.2.1,(hQ.mono (cz hd nfz h.1)).pks⟩) ⟨rfl,rfl,rfl⟩ (fun i ys H5 x c e p hx hp h1 h2 h3 h=>?_) (fun ys H5 h=>?_)
 ·refine match h with|⟨_,_,as,e_s1,ha,_⟩=>?_
  subst e_s1
  rw[b7];exact Ii ha
 ·refine match h with|⟨k5,hd5,as,e_s1,ha,hR5⟩=>?_
  subst e_s1
  have hil:i<T.length:=by rw[hQ.len];exact (List.getElem?_eq_some_iff.mp hx).1
  refine match Paired.get hQ (d0 hil) with|⟨x',hx',ek,_,hfr⟩=>?_
  rw[hx] at hx'
  cases hx'
  have hku:=hK _ (C4 hil)
  rw[ek] at h2 h3
  have e1:((kP n T[i].1).1).map kV=(T[i].1.take n).map V.int:=bK _
  have e2:((kP n T[i].1).2).map kV=(T[i].1.drop n).map V.int:=bK _
  rw[e1] at h2
  rw[e2] at h3
  have hf5:=cz hd nfz k5 _ _ hfr
  have g6:j4 H5 (v8 H5 p (.tup [.ref x.2.1,.ref x.2.2])):=j4.new hp
  have step:∀(q:Addr) (c1 c2:Addr) (pr:List Int × Rat) (H7:Hp),j4 H5 H7->H7 q=some (.tup [.ref c1,.ref c2,.ref x.2.2])->H7 c1=some (.tup ((pr.1.take n).map V.int))->H7 c2=some (.tup ((pr.1.drop n).map V.int))->pr.2=T[i].2->(bif sw then mM n T else T)[i]?=some pr ->
    Kp d H H7/\H7 d=some (.frz o (G2 P w d xs))/\∃as':List Addr,as.map V.ref++[.ref q]=as'.map V.ref/\as'.length=i+1/\R3 n H7 ((bif sw then mM n T else T).take (i+1)) as':=fun q c1 c2 pr H7 g7 hq h1 h2 e hg=>by
   refine ⟨k5.trans (g7.kp d),g7 _ _ hd5,as++[q],by rw[j7];rfl,by rw[n8,ha];rfl,?_⟩
   rw[t6,hg]
   exact af ⟨c1,c2,x.2.2,hq,h1,h2,by rw[e];exact g7 _ _ hf5⟩ (R3.mono hR5 fun a ys e=>g7 _ _ e)
  cases sw with
  | false =>
   refine ⟨_,rfl,_,rfl,_,rfl,(by show 3<=i8;decide),fun q hq=>?_⟩
   exact step q c e T[i] _ (g6.trans (j4.new hq)) i6 (j4.new hq _ _ (g6 _ _ h2)) (j4.new hq _ _ (g6 _ _ h3)) rfl (d0 hil)
  | true =>
   refine ⟨_,rfl,_,rfl,_,rfl,(by show 3<=i8;decide),fun q hq=>?_⟩
   obtain ⟨t1,t2⟩:=Z8 (v:=T[i].1.take n) hku.two.len
   refine step q e c (T[i].1.drop n++T[i].1.take n,T[i].2) _ (g6.trans (j4.new hq)) i6 (by rw[t1];exact j4.new hq _ _ (g6 _ _ h3)) (by rw[t2];exact j4.new hq _ _ (g6 _ _ h2)) rfl ?_
   show (mM n T)[i]?=_
   unfold mM
   rw[m7,d0 hil];rfl
 ·refine match h with|⟨k5,_,as,e_s1,ha,hR5⟩=>?_
  subst e_s1
  rw[C1 (by rw[hlT,hQ.len];exact d9 _)] at hR5
  exact fin as H5 k5 hR5
section
variable {P:f6}{w:j6}{K:m6}{mg:Str->Option b8}{base:Heap}{f:Addr}{fd:A7}{ec:Nat->Addr}{Bs:Addr}
noncomputable def CZ:Sp:=fun vs H Q _=>∃(st a b:Addr) (v:V) (n k:Nat) (us ws:List Int) (rs:List (List Int)),vs=[.ref a,.ref b,v,.int k]/\Es st H n us ws rs k a b v /\
 ∀D as T' H',H D=none->j4 H H'->T'.Perm (tw n rs k us ws)->jA T'->H' D=some (.lst (as.map V.ref))->R3 n H' T' as->Q (.ref D) H'
noncomputable def mP (ec:Nat->Addr):Sp:=fun vs H Q E=>GK ec vs H E ∨ CZ vs H Q E
noncomputable abbrev Di:Stmt:=ef 40
theorem vy:A2 ["one","other","rule","draws","chances","turn"] ["one","other","rule","draws"] (u0 Di):=⟨rfl,rfl,rfl,by decide +kernel,rfl,by decide +kernel,by decide +kernel⟩
theorem Gj (F:bC K "two_stands" "two_stands" Di f fd) (B:Bt mg) (B3:GX mg) (c1:Z9 P w K mg base 6 "need_two" ["one","other","rule","draws"] (yx ec)) (c2:U4 P w K mg base 1 "own_urn" ["urn"] fW) (c3:U4 P w K mg base 4 "next_chances_of_two" ["chances","rule"] (tS P w)):L3 P w K mg base (jY P w) 7 f fd ["one","other","rule","draws"] (mP ec):=by
 refine F.okX vy (fun vs H Q E h=>?_) (fun cdv A outer s H vs Q E hr h=>?_)
 ·rcases h with ⟨st,u,v,x,y,d,e,r,g,i,rfl,_⟩|⟨st,a,b,v,n,k,us,ws,rs,rfl,_⟩
  ·rfl
  ·rfl
 refine ⟨_,(@m9 _ _ _ _ _ (bS (O6 c1 hr rfl aA (@b6 _ _ _ _ _ (pv 0) (@b6 _ _ _ _ _ (pv 1) (@b6 _ _ _ _ _ (pv 2) (@b6 _ _ _ _ _ (pv 3) d8 (by rfl)) (by rfl)) (by rfl)) (by rfl))))
  (qv.nox (@m9 _ _ _ _ _ (@G4 _ _ 4 _ _ _ _ vy.nd rfl (t5 rfl) (Bf (EM hr) (@O5 _ _ _ _ _ (@b6 _ _ _ _ _ (w5 (c2.up (by decide)) hr rfl (@b6 _ _ _ _ _ (pv 0) d8 (by rfl))) (@b6 _ _ _ _ _ (w5 (c2.up (by decide)) hr rfl (@b6 _ _ _ _ _ (pv 1) d8 (by rfl))) d8 (by rfl)) (by rfl))) (@O5 _ _ _ _ _ (@b6 _ _ _ _ _ j9 (@b6 _ _ _ _ _ j9 d8 (by rfl)) (by rfl)))) (by rfl) (by first|exact .inl rfl|exact .inr rfl))
  (@m9 _ _ _ _ _ (bH E3 rfl (L0 rfl B.range (@b6 _ _ _ _ _ (pv 3) d8 (by rfl))) (O0 (i:=5) vy.nd rfl (t5 rfl))
  (@q5 _ _ _ (@G4 _ _ 4 _ _ _ _ vy.nd rfl (t5 rfl) (w5 (c3.up (by decide)) hr rfl (@b6 _ _ _ _ _ (pv 4) (@b6 _ _ _ _ _ (pv 2) d8 (by rfl)) (by rfl))) (by rfl) (by first|exact .inl rfl|exact .inr rfl))))
  (@m9 _ _ _ _ _ (T5 (@P7 _ _ _ _ _ _ _ _ fO (@D9 _ _ _ _ _ _ _ _ cR (pv 3) j9) j9 (N4 _)) (@q5 _ _ _ (B8 (A0 (lN hr.units) rfl B3.sorted cN (@b6 _ _ _ _ _ (F5 (N:=["second","first","so_likely"]) (ix:=[none,none,none]) (ifs:=[]) (tc:=M0) rfl (jc (pv 4))
   (fun s H ex=>jS (K:=K) (n:=2) rfl rfl (v9 (jS (K:=K) (n:=2) rfl rfl (v9 (Q5 (i:=0) (by decide +kernel) rfl (t5 rfl) (.inr rfl)) (v9 (Q5 (i:=1) (by decide +kernel) rfl (t5 rfl) (.inr rfl)) R5))) (v9 (Q5 (i:=2) (by decide +kernel) rfl (t5 rfl) (.inr rfl)) R5))) (fun s H ex=>D8) (fun s H ex=>(@O5 _ _ _ _ _ (@b6 _ _ _ _ _ (pv 1) (@b6 _ _ _ _ _ (pv 0) (@b6 _ _ _ _ _ (pv 2) d8 (by rfl)) (by rfl)) (by rfl)))) rfl (by decide +kernel) (by rfl) (by rfl) (fun _=>rfl)) d8 (by rfl))))) J1)
  (@q5 _ _ _ (B8 (A0 (lN hr.units) rfl B3.sorted cN (@b6 _ _ _ _ _ (F5 (N:=["first","second","so_likely"]) (ix:=[none,none,none]) (ifs:=[]) (tc:=M0) rfl (jc (pv 4))
   (fun s H ex=>jS (K:=K) (n:=2) rfl rfl (v9 (jS (K:=K) (n:=2) rfl rfl (v9 (Q5 (i:=0) (by decide +kernel) rfl (t5 rfl) (.inr rfl)) (v9 (Q5 (i:=1) (by decide +kernel) rfl (t5 rfl) (.inr rfl)) R5))) (v9 (Q5 (i:=2) (by decide +kernel) rfl (t5 rfl) (.inr rfl)) R5))) (fun s H ex=>D8) (fun s H ex=>(@O5 _ _ _ _ _ (@b6 _ _ _ _ _ (pv 0) (@b6 _ _ _ _ _ (pv 1) (@b6 _ _ _ _ _ (pv 2) d8 (by rfl)) (by rfl)) (by rfl)))) rfl (by decide +kernel) (by rfl) (by rfl) (fun _=>rfl)) d8 (by rfl)))))))))),?_⟩
 rcases h with ⟨st,u,v,x,y,d,e,r,g,i,rfl,hu,hus,hv,hvs,hx,hxo,hy,due,q⟩|⟨st,a,b,v,n,k,us,ws,rs,rfl,hA,q⟩
 ·exact ⟨_,rfl,_,rfl,_,rfl,_,rfl,u,v,x,y,st,d,e,r,g,rfl,hu,hus,hv,hvs,hx,hxo,hy,fun j hj H1 g1=>by rw[hj.one due];exact q H1 g1,fun z=>(due.no z).elim⟩
 ·have hU:=hA.uu
  have hV:=hA.wu
  have hR:=hA.ru
  have n1:=hA.n1
  have n4:=hA.n4
  have k4:=hA.k4
  refine match hA.u.di with|⟨a',e,_,ha⟩=>?_
  cases e
  refine match hA.w.di with|⟨b',e,_,hb⟩=>?_
  cases e
  have uok:=oh hU n1 n4
  have wok:=oh hV n1 n4
  have rok:fM (bA (DI us):Int) (DR rs)=true:=by rw[aD,hU.len];exact rn hR
  have hlen:=hR.len
  have hwk:X3 0 4 (.int (k:Int))=true:=by
   show (decide ((0:Int)<=(k:Int))&&decide ((k:Int)<=4))=true
   rw[decide_eq_true (by lia),decide_eq_true (by lia)];rfl
  have okw:GN (DI us) (DI ws) (DR rs) (.int (k:Int)):=⟨uok,wok,by rw[aD,aD,hU.len,hV.len],rok,hwk⟩
  refine ⟨_,rfl,_,rfl,_,rfl,_,rfl,_,_,_,_,st,DI us,DI ws,DR rs,.int k,rfl,hA.u,dh (by rw[hU.len];lia),hA.w,dh (by rw[hV.len];lia),hA.r,⟨qW (by lia),mT hR (by lia)⟩,Dt.int _ _ _,(fun j hj=>(hj.no okw).elim),fun _ H1 g1=>?_⟩
  have ndt:∀a ps ys,G2 P w a ps≠.tup ys:=fun _ _ _ z=>by unfold G2 at z;cases z
  intro p hp
  have g2:j4 H1 (v8 H1 p (G2 P w p [])):=j4.new hp
  have hp2:v8 H1 p (G2 P w p []) p=some (G2 P w p []):=i6
  have hHp:H p=none:=g1.free hp
  refine ⟨_,rfl,a,_,rfl,g2 _ _ (g1 _ _ ha),fun b1 H3 g3 hb1=>⟨_,rfl,b,_,rfl,g3 _ _ (g2 _ _ (g1 _ _ hb)),fun b2 H4 g4 hb2=>⟨(by show 2<=i8;decide),fun p5 hp5=>⟨(by show 2<=i8;decide),fun p6 hp6=>?_⟩⟩⟩⟩
  have g24:j4 (v8 H1 p (G2 P w p [])) H4:=j4.trans g3 g4
  have g5:j4 H4 (v8 H4 p5 (.tup [.ref b1,.ref b2])):=j4.new hp5
  have g6:j4 (v8 H4 p5 (.tup [.ref b1,.ref b2])) (v8 (v8 H4 p5 (.tup [.ref b1,.ref b2])) p6 (.tup [.int 1,.int 1])):=j4.new hp6
  have h56:v8 (v8 H4 p5 (.tup [.ref b1,.ref b2])) p6 (.tup [.int 1,.int 1]) p5=some (.tup [.ref b1,.ref b2]):=g6 _ _ i6
  have h66:v8 (v8 H4 p5 (.tup [.ref b1,.ref b2])) p6 (.tup [.int 1,.int 1]) p6=some (.tup [.int 1,.int 1]):=i6
  have g46:=g5.trans g6
  try dsimp -proj only
  generalize v8 (v8 H4 p5 (.tup [.ref b1,.ref b2])) p6 (.tup [.int 1,.int 1])=H6 at g6 h56 h66 g46
  have hp6':H6 p=some (G2 P w p []):=g46 _ _ (g24 _ _ hp2)
  have gg:j4 H H6:=(g1.trans g2).trans (g24.trans g46)
  obtain ⟨et,ed⟩:=Z8 (v:=ws) hU.len
  have hb1':H6 b1=some (.tup (us.map V.int)):=g46 _ _ (g4 _ _ hb1)
  have hb2':H6 b2=some (.tup (ws.map V.int)):=g46 _ _ hb2
  have kpt:tE H6 (kP n (us++ws)) p5:=by
   refine ⟨b1,b2,h56,?_,?_⟩
   ·show H6 b1=some (.tup ((kI ((us++ws).take n)).map kV))
    rw[et,bK];exact hb1'
   ·show H6 b2=some (.tup ((kI ((us++ws).drop n)).map kV))
    rw[ed,bK];exact hb2'
  refine ⟨hp6',p5,kP n (us++ws),p6,rfl,rfl,kpt,?_⟩
  have wo:=fun j hj=>gD hR n4 hU hV j hj
  have tp:=cz hp6' (ndt _ _) (Kp.at (o:=G2 P w p [(kP n (us++ws),p5,p6)]))
  have gz:j4 H (v8 H6 p (G2 P w p [(kP n (us++ws),p5,p6)])):=fun c o e=>by rw[A3 (u3 e hHp)];exact gg _ _ e
  have hz:v8 H6 p (G2 P w p [(kP n (us++ws),p5,p6)]) p=some (G2 P w p [(kP n (us++ws),p5,p6)]):=i6
  have hqz:QP n (v8 H6 p (G2 P w p [(kP n (us++ws),p5,p6)])) [(us++ws,1)] [(kP n (us++ws),p5,p6)]:=.cons ⟨rfl,kpt.keep tp,tp _ _ h66⟩ .nil
  refine ⟨_,rfl,(k:Int),rfl,by lia,by lia,?_⟩
  refine dn (lo:=0) (n:=k) (fun j σ H3=>j4 H H3/\j<=k/\∃p xs o5,H p=none/\H3 p=some (G2 P w p xs)/\QP n H3 (ao n rs j [(us++ws,1)]) xs/\σ=[some (.ref a),some (.ref b),some v,some (.int k),some (.ref p),o5])
   ⟨gz,j5 _,p,_,none,hHp,hz,hqz,rfl⟩ (fun j σ H3 hj h=>?_) (fun σ H3 h=>?_)
  ·refine match h with|⟨g3,hjk,p,xs,o5,hpn,hp3,hq3,e_s1⟩=>?_
   subst e_s1
   refine match wo j (by lia) with|⟨w1,w2,w3,w4⟩=>?_
   have hj3:j<=3:=by lia
   have hl:(ao n rs j [(us++ws,1)]).length<=256:=f9 w4 (u6 (n:=4) (by decide) (show j<=4 by lia))
   have e1:LL ^ j<=2 ^ 1600:=f9 (gE j) (u6 (by decide) (by lia))
   have e2:4 ^ (j*j)<=2 ^ 60:=by
    have:j*j<=3*3:=u4 hj3 hj3
    exact f9 (u6 (by decide) this) (by decide)
   refine ⟨_,rfl,_,rfl,p,st,v,n,20+5*j,LL ^ j,4 ^ (j*j),_,xs,rs,rfl,hp3,hq3,w1,by lia,hl,w3,bW j,e1,e2,hA.r.kp (g3.kp st),hR,n4,fun p' xs' H4 k4 hp' h4 hq4=>?_⟩
   have g4:j4 H H4:=fun c o e=>k4 _ _ (u3 e hpn) (g3 _ _ e)
   exact ⟨g4,by lia,p',xs',_,g3.free hp',h4,hq4,rfl⟩
  ·refine match h with|⟨g3,_,p,xs,o5,hpn,hp3,hq3,e_s1⟩=>?_
   subst e_s1
   refine match wo k (by lia) with|⟨w1,w2,w3,w4⟩=>?_
   have hln:=qg hR n1 n4 hU hV k4
   have fin:∀(sw:Bool) (o:Obj) (as:List Addr) (H5:Hp) (l:Addr),(bif sw then mM n (ao n rs k [(us++ws,1)]) else ao n rs k [(us++ws,1)])=tw n rs k us ws->Kp p (v8 H3 p (.frz o (G2 P w p xs))) H5->R3 n H5 (bif sw then mM n (ao n rs k [(us++ws,1)]) else ao n rs k [(us++ws,1)]) as->H5 l=none ->
     yH K [.ref l] (v8 H5 l (.lst (as.map V.ref))) Q:=fun sw o as H5 l ew k5 h5 hl=>by
    have g6:j4 H5 (v8 H5 l (.lst (as.map V.ref))):=j4.new hl
    have h6:=R3.mono h5 fun a ys e=>g6 _ _ e
    have kt:KU n (20+5*k) (bif sw then mM n (ao n rs k [(us++ws,1)]) else ao n rs k [(us++ws,1)]):=by cases sw;exact w1;exact yu w1
    have nt:bI (bif sw then mM n (ao n rs k [(us++ws,1)]) else ao n rs k [(us++ws,1)]):=by cases sw;exact w2;exact yt w1 w2
    have lt:(bif sw then mM n (ao n rs k [(us++ws,1)]) else ao n rs k [(us++ws,1)]).length=(ao n rs k [(us++ws,1)]).length:=by cases sw <;> simp[mM]
    have gH5:j4 H H5:=fun c o' e=>k5 _ _ (u3 e hpn) (by rw[A3 (u3 e hpn)];exact g3 _ _ e)
    refine ⟨l,as,n,xR _,xQ _,rfl,.of i6,?_,h6.trs kt nt,fun D as' H7 pm so g7 hDn hD=>?_⟩
    ·rw[<- G3 h6,lt];exact hln
    ·refine match h6.sorted pm so g7 with|⟨T',pT,oT,r7⟩=>?_
     rw[ew] at pT
     exact q D as' T' H7 (gH5.free (g6.free hDn)) (gH5.trans (g6.trans g7)) pT oT hD r7
   have hxl:xs.length<=i8:=by rw[<- hq3.len];exact O3 (de (by lia))
   have fz:∀(o:Obj) a ys,H3 a=some (.tup ys)->v8 H3 p (.frz o (G2 P w p xs)) a=some (.tup ys):=fun o a ys e=>by rw[A3 (rQ e hp3 (ndt _ _ _).symm)];exact e
   refine ⟨_,rfl,_,_,rfl,rfl,(show (0:Int)<2 by decide),rfl,_,rfl,?_⟩
   by_cases hk:k % 2=1
   ·rw[decide_eq_true (show V.int ((k:Int) % 2)=V.int 1 by congr 1;lia)]
    refine bB ?_
    exact ⟨_,rfl,p,xs,rfl,hp3,fun o=>zY true (hq3.mono (fz o)) w1 i6 hxl fun as H5 k5 h5 l hl=>fin true o as H5 l (by unfold tw;rw[if_pos hk];rfl) k5 h5 hl⟩
   ·rw[decide_eq_false (show ¬ V.int ((k:Int) % 2)=V.int 1 from fun z=>hk (by injection z with z;lia))]
    refine ak ?_
    exact ⟨_,rfl,p,xs,rfl,hp3,fun o=>zY false (hq3.mono (fz o)) w1 i6 hxl fun as H5 k5 h5 l hl=>fin false o as H5 l (by unfold tw;rw[if_neg hk];rfl) k5 h5 hl⟩
end
end G
namespace M8
open PySem PySem.Spec L2 Mt Md Mq HP
noncomputable def fed (o:Bool) (u v:List Int):List Int:=bif o then u else v
variable {T:v5}
theorem vS (h:bI T) (k:List Int):M5 T (ind k)=Y7 T k:=by
 induction T with
 | nil=>rfl
 | cons p T ih =>
  unfold bI at h
  rw[j8,K4] at h
  rw[C5,ih h.2]
  show p.2*(if p.1=k then 1 else 0)+Y7 T k=if p.1=k then p.2 else Y7 T k
  by_cases e:p.1=k
  ·rw[if_pos e,if_pos e,kc (k:=k) T (by rw[<- e];exact h.1),yb,kC]
  ·rw[if_neg e,if_neg e,Rat.mul_zero,kB]
theorem lI {x:Rat}{s:Int}{k:List Int}:∀{bs:List (Int × List Int)}{D:v5},((∃b∈bs,b.2=k) ∨ k∈D.map (·.1))->k∈(K9 x s bs D).map (·.1)
 | [],D,h=>by
  rcases h with ⟨b,hb,_⟩|h
  ·simp at hb
  ·exact h
 | b::bs,D,h=>by
  unfold K9
  have key:∀(D:v5) (y:Rat) (j:List Int),(j=b.2 ∨ j∈D.map (·.1))->j∈(U9 D b.2 y).map (·.1):=fun D y j=>by
   induction D with
   | nil=>intro hj;unfold U9;simpa using hj
   | cons p D ih =>
    intro hj
    unfold U9
    by_cases e:p.1=b.2
    ·rw[if_pos e]
     rcases hj with rfl|hj
     ·simp[e]
     ·simpa using hj
    ·rw[if_neg e,j8,y3]
     rcases hj with rfl|hj
     ·exact .inr (ih (.inl rfl))
     ·rw[j8,y3] at hj
      exact hj.imp id fun z=>ih (.inr z)
  refine lI ?_
  rcases h with ⟨c,hc,e⟩|h
  ·rcases List.mem_cons.mp hc with rfl|hc
   ·exact .inr (key D _ k (.inl e.symm))
   ·exact .inl ⟨c,hc,e⟩
  ·exact .inr (key D _ k (.inr h))
noncomputable def sg (o:Bool) (n:Nat) (k:List Int):List Int:=bif o then k.drop n++k.take n else k
noncomputable def Dh (o:Bool) (n:Nat) (T:v5):v5:=T.map fun p=>(sg o n p.1,p.2)
noncomputable def odd (k:Nat):Bool:=decide (k % 2=1)
theorem vn (n:Nat) (rs:List (List Int)) (k:Nat) (u v:List Int):tw n rs k u v=Dh (odd k) n (ao n rs k [(u++v,1)]):=by
 unfold tw odd
 by_cases h:k % 2=1
 ·rw[if_pos h,decide_eq_true h];rfl
 ·rw[if_neg h,decide_eq_false h]
  unfold Dh sg
  exact (HE _).symm
variable {n:Nat}
theorem Dg {o:Bool}{m:Nat}(h:KU n m T):KU n m (Dh o n T):=by
 cases o
 ·intro p hp
  obtain ⟨q,hq,rfl⟩:=List.mem_map.mp hp
  exact h q hq
 ·exact yu h
theorem AY {o:Bool}{N E:Nat}(h:aF N E T):aF N E (Dh o n T):=fun p hp=>by
 obtain ⟨q,hq,rfl⟩:=List.mem_map.mp hp
 exact h q hq
theorem mL {k:Nat}{rs:List (List Int)}{u v:List Int} (hR:jW n 5 rs) (n1:1<=n) (n4:n<=4) (hu:Y9 n 20 u) (hv:Y9 n 20 v) (hk:k<=4):KU n (20+5*k) (tw n rs k u v)/\bI (tw n rs k u v)/\aF (LL ^ k) (4 ^ (k*k)) (tw n rs k u v)/\(tw n rs k u v).length<128:=by
 obtain ⟨w1,w2,w3,w4⟩:=gD hR n4 hu hv k (by lia)
 have l:=qg hR n1 n4 hu hv hk
 refine ⟨by rw[vn];exact Dg w1,?_,by rw[vn];exact AY w3,by rw[vn];unfold Dh;rw[b7];exact l⟩
 unfold tw
 split
 ·exact yt w1 w2
 ·exact w2
noncomputable def RK (n:Nat) (H:Hp):v5->List Addr->Prop:=bO fun p a=>∃c d,H a=some (.tup [.ref c,.ref d])/\H c=some (.tup ((p.1.take n).map V.int))/\H d=some (.tup ((p.1.drop n).map V.int))
variable {H:Hp}
theorem QP.rk {xs:PX} (h:QP n H T xs):RK n H T (xs.map (·.2.1)):=by
 induction h with
 | nil=>exact .nil
 | @cons p x T xs r t ih =>
  obtain ⟨e,⟨c,d,h1,h2,h3⟩,_⟩:=r
  rw[e] at h2 h3
  refine .cons ⟨c,d,h1,?_,?_⟩ ih
  ·rw[h2];show some (HO.tup ((kI _).map kV))=_;rw[bK]
  ·rw[h3];show some (HO.tup ((kI _).map kV))=_;rw[bK]
variable {as:List Addr}
theorem RK.keys (h:RK n H T as):(as.map fun a=>xR H a++xQ H a)=T.map (·.1):=by
 induction h with
 | nil=>rfl
 | @cons p a T as r t ih =>
  obtain ⟨c,d,h1,h2,h3⟩:=r
  obtain ⟨e1,e2⟩:=ny h1 h2 h3
  rw[j8,j8,ih,e1,e2,y7]
theorem RK.trs {m:Nat}(h:RK n H T as) (hk:KU n m T) (hn:bI T):Eg H as n (xR H) (xQ H):=by
 have key:∀a∈as,∃p∈T,∃c d,H a=some (.tup [.ref c,.ref d])/\H c=some (.tup ((p.1.take n).map V.int))/\H d=some (.tup ((p.1.drop n).map V.int)):=by
  clear hk hn
  induction h with
  | nil=>exact fun _ z=>nomatch z
  | @cons p a T as r t ih =>
   intro x hx
   rcases List.mem_cons.mp hx with e|hx
   ·rw[e];exact ⟨p,.head _,r⟩
   ·obtain ⟨p',hp',r'⟩:=ih x hx
    exact ⟨p',.tail _ hp',r'⟩
 refine ⟨fun a ha=>?_,fun a ha=>?_,by rw[h.keys];exact hn⟩
 ·obtain ⟨p,_,c,d,h1,h2,h3⟩:=key a ha
  obtain ⟨e1,e2⟩:=ny h1 h2 h3
  rw[e1,e2]
  exact ⟨c,d,_,h1,h2,h3⟩
 ·obtain ⟨p,hp,c,d,h1,h2,h3⟩:=key a ha
  rw[(ny h1 h2 h3).1]
  exact (hk p hp).one.len
theorem RK.sorted {as':List Addr} (h:RK n H T as) (p:as'.Perm as) (o:as'.Pairwise (fun a b=>HT.E7 (xR H b++xQ H b) (xR H a++xQ H a)=false)):∃T':v5,T'.Perm T/\jA T'/\RK n H T' as':=by
 obtain ⟨T',pT,h'⟩:=jH h p
 refine ⟨T',pT,?_,h'⟩
 unfold jA
 rw[<- RK.keys h',L6]
 exact o
theorem QP.at_ {xs:PX}{p:List Int × Rat} (h:QP n H T xs) (hn:bI T) (hp:p∈T):∃q,wC xs (kP n p.1)=some q/\H q=some (.tup ((fr p.2).map V.int)):=by
 induction h with
 | nil=>simp at hp
 | @cons p0 x T xs r t ih =>
  unfold bI at hn
  rw[j8,K4] at hn
  unfold wC
  rw[O7]
  rcases List.mem_cons.mp hp with e|hp'
  ·subst e
   rw[decide_eq_true r.1]
   exact ⟨_,rfl,r.2.2⟩
  ·have ne:¬ p0.1=p.1:=fun z=>hn.1 (by rw[z];exact List.mem_map.mpr ⟨p,hp',rfl⟩)
   rw[decide_eq_false (fun z=>ne (lJ (r.1.symm.trans z)))]
   exact ih hn.2 hp'
end M8
namespace G
open PySem PySem.Spec PyProof.Rows L2 Mt Md Mq M8
theorem jb {α β:Type}{F:α->β->Prop}{l:List α}{m:List β} (h:bO F l m):∀{i:Nat}{b:β},m[i]?=some b->∃a,l[i]?=some a/\F a b:=by
 induction h with
 | nil=>intro i b e;simp at e
 | @cons a b' l m r _ ih =>
  intro i b e
  cases i with
  | zero=>cases e;exact ⟨a,rfl,r⟩
  | succ i=>simpa using ih (i:=i) (b:=b) (by simpa using e)
noncomputable def R2 (g:List Int->List Int) (H:Hp):v5->List Addr->Prop:=bO fun p a=>∃c q,H a=some (.tup [.ref c,.ref q])/\H c=some (.tup ((g p.1).map V.int))/\H q=some (.tup ((fr p.2).map V.int))
variable {g:List Int->List Int}{T:v5}
theorem R2.mono {H H':Hp}{as:List Addr} (h:R2 g H T as) (t:∀a ys,H a=some (.tup ys)->H' a=some (.tup ys)):R2 g H' T as :=
 Paired.mapP h fun p x ⟨c,q,h1,h2,h3⟩=>⟨c,q,t _ _ h1,t _ _ h2,t _ _ h3⟩
noncomputable def mQ (g:List Int->List Int) (T:v5) (k:Nat):Rat:=P9 (T.map fun p=>Mt.Q0 (g p.1) k*p.2)
noncomputable def uG (g:List Int->List Int) (T:v5) (n:Nat):List Rat:=(G5 n).map (mQ g T)
theorem ik {n:Nat}:(uG g T n).length=n:=by unfold uG;rw[b7,AF]
theorem rU {n:Nat}:uG g T (n+1)=uG g T n++[mQ g T n]:=by unfold uG;rw[mI,j7];rfl
section
variable {P:f6}{w:j6}{K:m6}{mg:Str->Option b8}{base:Heap}{f:Addr}{fd:A7}{ec:Nat->Addr}{Bs:Addr}
noncomputable def yy:Sp:=fun vs H Q _=>∃(D:Addr) (k n m N E:Nat) (T:v5) (as:List Addr) (g:List Int->List Int),vs=[.ref D,.int k]/\H D=some (.lst (as.map V.ref))/\R2 g H T as/\(∀p∈T,Y9 n m (g p.1))/\m<=50/\n<=4/\k<n/\aF N E T/\T.length<128/\0<N/\N<=2 ^ 1800/\E<=2 ^ 80 /\
 ∀r H',j4 H H'->H' r=some (.tup ((fr (mQ g T k)).map V.int))->Q (.ref r) H'
noncomputable abbrev Dp:Stmt:=ef 35
theorem FO:A2 ["behind","kind"] ["behind","kind"] (u0 Dp):=⟨rfl,rfl,rfl,by decide +kernel,rfl,by decide +kernel,by decide +kernel⟩
theorem Gs (F:bC K "mean_share" "mean_share" Dp f fd) (c1:U4 P w K mg base 4 "total" ["fractions"] kM) (c2:U4 P w K mg base 3 "times" ["one","other"] bt) (c3:U4 P w K mg base 3 "share" ["urn","kind"] eG):L3 P w K mg base dA 5 f fd ["behind","kind"] yy:=by
 refine F.ok FO (fun vs H Q E h=>?_) (fun cdv A outer s H vs Q E hr h=>?_)
 ·refine match h with|⟨D,k,n,m,N,E,T,as,g,e_s1,_⟩=>?_
  subst e_s1
  rfl
 refine match h with|⟨D,k,n,m,N,En,T,as,g,e_s1,hD,hB,hK,hm,n4,hk,hE,hl,hN0,hN,hEn,q⟩=>?_
 subst e_s1
 refine ⟨_,q5 (B8 (w5 c1 hr rfl (b6 (F5 (N:=["urn","so_likely","kind"]) (ix:=[none,none,some 1]) (ifs:=[]) (tc:=M0) rfl (V2 (pv 0))
   (fun s H ex=>jS (K:=K) (n:=2) rfl rfl (v9 (Q5 (i:=0) (by decide +kernel) rfl (t5 rfl) (.inr rfl)) (v9 (Q5 (i:=1) (by decide +kernel) rfl (t5 rfl) (.inr rfl)) R5))) (fun s H ex=>D8)
   (fun s H ex=>w5 (c2.up (by decide)) hr rfl (b6 (w5 (c3.up (by decide)) hr rfl (b6 (pv 0) (b6 (pv 2) d8))) (b6 (pv 1) d8))) rfl (by decide +kernel) (by rfl) (by rfl) (fun _=>rfl)) d8))),?_⟩
 have hNL:LL*N<=2 ^ 2100:=by
  have:(2:Nat) ^ 2100=2 ^ 300*2 ^ 1800:=by rw[<- D5]
  rw[this];exact u4 sQ hN
 have hlen:T.length=as.length:=G3 hB
 refine ⟨_,rfl,D,rfl,⟨_,.of hD⟩,?_⟩
 refine xH (K:=K) (a:=D) (xs:=as.map V.ref) (sz (by rw[b7];lia)) (fun i zs H2=>j4 H H2/\i<=T.length/\fH H2 ((T.take i).map fun p=>Mt.Q0 (g p.1) k*p.2) zs) ⟨j4.refl H,j5 _,trivial⟩ (fun i zs H2 h=>?_) (fun i zs H2 _ h=>.of (h.1 _ _ hD)) ⟨rfl,rfl⟩ (fun i zs H2 x hx h=>?_) (fun zs H2 h=>?_)
 ·rw[h.2.2.len,b7,m8]
  have:=h.2.1
  lia
 ·refine match h with|⟨g2,hi,hF⟩=>?_
  rw[m7,P0] at hx
  refine match hx with|⟨r,hr',e_s1⟩=>?_
  subst e_s1
  refine match jb hB hr' with|⟨p,hp,ka,qa,h1,h2,h3⟩=>?_
  have hil:=(List.getElem?_eq_some_iff.mp hp).1
  have hku:=hK p (t7 hp)
  have hv:=hE p (t7 hp)
  refine ⟨r,.ref ka,.ref qa,rfl,.of (g2 _ _ h1),_,rfl,_,rfl,ka,n,m,g p.1,k,rfl,g2 _ _ h2,hku,n4,by lia,hk,fun p5 H5 g5 hp5=>?_⟩
  have d1:Bd 1880 p.2:=hv.bd hN0 (by
   have:(2:Nat) ^ 1880=2 ^ 1800*2 ^ 80:=by rw[<- D5]
   rw[this];exact u4 hN hEn) (f9 hN (u6 (by decide) (by decide)))
  refine ⟨_,rfl,p5,qa,Mt.Q0 (g p.1) k,p.2,12,1880,rfl,hp5,g5 _ _ (g2 _ _ h3),Rat.num_nonneg.mpr (qX hku k),Rat.num_nonneg.mpr hv.nn,qY hku n4 (by lia) k,d1,by decide,fun p6 H6 g6 hp6=>⟨g2.trans (g5.trans g6),hil,?_⟩⟩
  rw[t6,hp,j7]
  exact fH.snoc ⟨p6,rfl,hp6⟩ (hF.mono fun a xs e=>g6 _ _ (g5 _ _ e))
 ·refine match h with|⟨g2,_,hF⟩=>?_
  intro p hp
  rw[b7,<- hlen,u5] at hF
  have g3:j4 H2 (v8 H2 p (.lst zs)):=j4.new hp
  have hp3:v8 H2 p (.lst zs) p=some (.lst zs):=i6
  generalize v8 H2 p (.lst zs)=H3 at g3 hp3
  refine ⟨p,zs,T.map (fun p=>Mt.Q0 (g p.1) k*p.2),LL*N,En,2190,rfl,hp3,hF.mono fun a xs e=>g3 _ _ e,fun x hx=>?_,aK lP hN0,?_,f9 hNL (u6 (by decide) (by decide)),by decide,fun r H4 g4 hr4=>?_⟩
  ·refine match List.mem_map.mp hx with|⟨p,hp,e⟩=>?_
   subst e
   exact ((kT (hK p hp) n4 hm k).mul (hE p hp)).mono (by lia)
  ·have:(2:Nat) ^ 2190=2 ^ 2100*(2 ^ 80*2 ^ 10):=by rw[<- D5,<- D5]
   rw[this]
   refine u4 hNL ?_
   rw[b7]
   have:En*T.length+En=En*(T.length+1):=by rw[V1,Nat.mul_one]
   rw[this]
   exact u4 hEn (by show _<=1024;lia)
  ·exact q r H4 ((g2.trans g3).trans g4) hr4
noncomputable def Ss (n:Nat) (T:v5) (H:Hp) (p:Addr):Prop:=∃x y xs ys,H p=some (.tup [.ref x,.ref y])/\H x=some (.tup xs)/\fH H (uG (gQ n) T n) xs/\H y=some (.tup ys)/\fH H (uG (gS n) T n) ys
noncomputable def Da:Sp:=fun vs H Q _=>∃(st a b:Addr) (v:V) (n k:Nat) (us ws:List Int) (rs:List (List Int)),vs=[.ref a,.ref b,v,.int k]/\Es st H n us ws rs k a b v /\
 ∀p T' H',j4 H H'->T'.Perm (tw n rs k us ws)->jA T'->Ss n T' H' p->Q (.ref p) H'
noncomputable def yw (ec:Nat->Addr):Sp:=fun vs H Q E=>GK ec vs H E ∨ Da vs H Q E
noncomputable abbrev Dl:Stmt:=ef 41
theorem vz:A2 ["one","other","rule","draws","behind","firsts","seconds"] ["one","other","rule","draws"] (u0 Dl):=⟨rfl,rfl,rfl,by decide +kernel,rfl,by decide +kernel,by decide +kernel⟩
theorem Gn (F:bC K "two_shares" "two_shares" Dl f fd) (B:Bt mg) (c1:Z9 P w K mg base 7 "two_stands" ["one","other","rule","draws"] (mP ec)) (c2:U4 P w K mg base 5 "mean_share" ["behind","kind"] yy):L3 P w K mg base (jY P w) 8 f fd ["one","other","rule","draws"] (yw ec):=by
 refine F.okX vz (fun vs H Q E h=>?_) (fun cdv A outer s H vs Q E hr h=>?_)
 ·rcases h with ⟨st,u,v,x,y,d,e,r,g,i,rfl,_⟩|⟨st,a,b,v,n,k,us,ws,rs,rfl,_⟩
  ·rfl
  ·rfl
 refine ⟨_,(@m9 _ _ _ _ _ (@G4 _ _ 4 _ _ _ _ vz.nd rfl (t5 rfl) (O6 c1 hr rfl aA (@b6 _ _ _ _ _ (pv 0) (@b6 _ _ _ _ _ (pv 1) (@b6 _ _ _ _ _ (pv 2) (@b6 _ _ _ _ _ (pv 3) d8 (by rfl)) (by rfl)) (by rfl)) (by rfl))) (by rfl) (by first|exact .inl rfl|exact .inr rfl))
  (qv.nox (@m9 _ _ _ _ _ (@G4 _ _ 5 _ _ _ _ vz.nd rfl (bZ rfl) (F5 (N:=["first","second","so_likely"]) (ix:=[none,none,none]) (ifs:=[]) (tc:=M0) rfl (V2 (pv 4))
   (fun s H ex=>jS (K:=K) (n:=3) rfl rfl (v9 (Q5 (i:=0) (by decide +kernel) rfl (t5 rfl) (.inr rfl)) (v9 (Q5 (i:=1) (by decide +kernel) rfl (t5 rfl) (.inr rfl)) (v9 (Q5 (i:=2) (by decide +kernel) rfl (t5 rfl) (.inr rfl)) R5)))) (fun s H ex=>D8) (fun s H ex=>(@O5 _ _ _ _ _ (@b6 _ _ _ _ _ (pv 0) (@b6 _ _ _ _ _ (pv 2) d8 (by rfl)) (by rfl)))) rfl (by decide +kernel) (by rfl) (by rfl) (fun _=>rfl)) (by rfl) (by first|exact .inl rfl|exact .inr rfl))
  (@m9 _ _ _ _ _ (@G4 _ _ 6 _ _ _ _ vz.nd rfl (bZ rfl) (F5 (N:=["first","second","so_likely"]) (ix:=[none,none,none]) (ifs:=[]) (tc:=M0) rfl (V2 (pv 4))
   (fun s H ex=>jS (K:=K) (n:=3) rfl rfl (v9 (Q5 (i:=0) (by decide +kernel) rfl (t5 rfl) (.inr rfl)) (v9 (Q5 (i:=1) (by decide +kernel) rfl (t5 rfl) (.inr rfl)) (v9 (Q5 (i:=2) (by decide +kernel) rfl (t5 rfl) (.inr rfl)) R5)))) (fun s H ex=>D8) (fun s H ex=>(@O5 _ _ _ _ _ (@b6 _ _ _ _ _ (pv 1) (@b6 _ _ _ _ _ (pv 2) d8 (by rfl)) (by rfl)))) rfl (by decide +kernel) (by rfl) (by rfl) (fun _=>rfl)) (by rfl) (by first|exact .inl rfl|exact .inr rfl))
  (@q5 _ _ _ (B8 (@O5 _ _ _ _ _ (@b6 _ _ _ _ _ (J4 F8 rfl B.tuple N0 (@b6 _ _ _ _ _ (F5 (N:=["kind","firsts"]) (ix:=[none,some 5]) (ifs:=[]) (tc:=M0) rfl (L0 rfl B.range (@b6 _ _ _ _ _ (A0 J6 rfl B.len J9 (@b6 _ _ _ _ _ (pv 0) d8 (by rfl))) d8 (by rfl)))
   (fun s H ex=>Q5 (i:=0) (by decide +kernel) rfl (t5 rfl) (.inr rfl)) (fun s H ex=>D8) (fun s H ex=>(w5 (c2.up (by decide)) hr rfl (@b6 _ _ _ _ _ (pv 1) (@b6 _ _ _ _ _ (pv 0) d8 (by rfl)) (by rfl)))) rfl (by decide +kernel) (by rfl) (by rfl) (fun _=>rfl)) d8 (by rfl))) (@b6 _ _ _ _ _ (J4 F8 rfl B.tuple N0 (@b6 _ _ _ _ _ (F5 (N:=["kind","seconds"]) (ix:=[none,some 6]) (ifs:=[]) (tc:=M0) rfl (L0 rfl B.range (@b6 _ _ _ _ _ (A0 J6 rfl B.len J9 (@b6 _ _ _ _ _ (pv 0) d8 (by rfl))) d8 (by rfl)))
   (fun s H ex=>Q5 (i:=0) (by decide +kernel) rfl (t5 rfl) (.inr rfl)) (fun s H ex=>D8) (fun s H ex=>(w5 (c2.up (by decide)) hr rfl (@b6 _ _ _ _ _ (pv 1) (@b6 _ _ _ _ _ (pv 0) d8 (by rfl)) (by rfl)))) rfl (by decide +kernel) (by rfl) (by rfl) (fun _=>rfl)) d8 (by rfl))) d8 (by rfl)) (by rfl))))))))),?_⟩
 rcases h with hrf|⟨st,a,b,v,n,k,us,ws,rs,rfl,hA,q⟩
 ·refine match hrf with|⟨st,u,v,x,y,d,e,r,g,i,e_s1,cu⟩=>?_
  subst e_s1
  exact ⟨_,rfl,_,rfl,_,rfl,_,rfl,.inl ⟨st,u,v,x,y,d,e,r,g,i,rfl,cu⟩⟩
 refine ⟨_,rfl,_,rfl,_,rfl,_,rfl,.inr ⟨st,a,b,v,n,k,us,ws,rs,rfl,hA,fun D as T H1 _ g1 hT hO hD hR=>?_⟩⟩
 refine match hA.u.di with|⟨a',e,_,ha⟩=>?_
 cases e
 have hul:=hA.uu.len
 have n4:=hA.n4
 have k4:=hA.k4
 refine match mL hA.ru hA.n1 n4 hA.uu hA.wu k4 with|⟨w1,w2,w3,w4⟩=>?_
 have e1:LL ^ k<=2 ^ 1800:=f9 (gE k) (u6 (by decide) (by lia))
 have e2:4 ^ (k*k)<=2 ^ 80:=by
  have:k*k<=4*4:=u4 k4 k4
  exact f9 (u6 (by decide) this) (by decide)
 have hTl:T.length<128:=by rw[hT.length_eq];exact w4
 have hlen:T.length=as.length:=G3 hR
 have hE:aF (LL ^ k) (4 ^ (k*k)) T:=fun p hp=>w3 p (hT.mem_iff.mp hp)
 have u1:∀p∈T,Y9 n (20+5*k) (p.1.take n):=fun p hp=>(w1 p (hT.mem_iff.mp hp)).one
 have u2:∀p∈T,Y9 n (20+5*k) (p.1.drop n):=fun p hp=>(w1 p (hT.mem_iff.mp hp)).two
 refine ⟨_,rfl,D,rfl,⟨_,.of (id hD)⟩,?_⟩
 refine dq (K:=K) (a:=D) (xs:=as.map V.ref) (sz (by rw[b7];lia)) (fun i zs H2=>j4 H1 H2/\i<=T.length/\∃bs:List Addr,zs=bs.map V.ref/\R2 (gQ n) H2 (T.take i) bs) ⟨j4.refl _,j5 _,[],rfl,.nil⟩ (fun i zs H2 h=>?_) (fun i zs H2 _ h=>.of (h.1 _ _ (id hD))) ⟨rfl,rfl,rfl⟩ (fun i zs H2 x hx h=>?_) (fun zs H2 h=>?_)
 ·refine match h with|⟨_,hi,bs,e_s1,hb⟩=>?_
  subst e_s1
  have:=G3 hb
  rw[m8] at this
  rw[b7];lia
 ·refine match h with|⟨g2,hi,bs,e_s1,hb⟩=>?_
  subst e_s1
  rw[m7,P0] at hx
  refine match hx with|⟨r,hr',e_s1⟩=>?_
  subst e_s1
  refine match jb hR hr' with|⟨p,hp,ca,da,qa,h1,h2,h3,h4⟩=>?_
  have hil:=(List.getElem?_eq_some_iff.mp hp).1
  refine ⟨r,.ref ca,.ref da,.ref qa,rfl,.of (g2 _ _ (id h1)),_,rfl,_,rfl,(by show 2<=i8;decide),fun z hz=>⟨g2.trans (j4.new hz),hil,bs++[z],by rw[j7];rfl,?_⟩⟩
  rw[t6,hp]
  exact af ⟨_,_,i6,j4.new hz _ _ (g2 _ _ (id h2)),j4.new hz _ _ (g2 _ _ (id h4))⟩ (R2.mono hb fun a xs e=>j4.new hz _ _ e)
 refine match h with|⟨gx,_,fas,e_s1,hb⟩=>?_
 subst e_s1
 intro fa hp
 rw[b7,<- hlen,u5] at hb
 have gy:j4 H2 (v8 H2 fa (.lst (fas.map V.ref))):=j4.new hp
 have hfa:v8 H2 fa (.lst (fas.map V.ref)) fa=some (.lst (fas.map V.ref)):=i6
 have gf:=gx.trans gy
 have rf:=R2.mono hb fun a xs e=>gy _ _ e
 try dsimp -proj only[T6]
 generalize v8 H2 fa (.lst (fas.map V.ref))=Hf at gy hfa gf rf
 clear gx gy hb hp
 refine ⟨_,rfl,D,rfl,⟨_,.of (gf _ _ hD)⟩,?_⟩
 refine dq (K:=K) (a:=D) (xs:=as.map V.ref) (sz (by rw[b7];lia)) (fun i zs H2=>j4 Hf H2/\i<=T.length/\∃bs:List Addr,zs=bs.map V.ref/\R2 (gS n) H2 (T.take i) bs) ⟨j4.refl _,j5 _,[],rfl,.nil⟩ (fun i zs H2 h=>?_) (fun i zs H2 _ h=>.of (h.1 _ _ (gf _ _ hD))) ⟨rfl,rfl,rfl⟩ (fun i zs H2 x hx h=>?_) (fun zs H2 h=>?_)
 ·refine match h with|⟨_,hi,bs,e_s1,hb⟩=>?_
  subst e_s1
  have:=G3 hb
  rw[m8] at this
  rw[b7];lia
 ·refine match h with|⟨g2,hi,bs,e_s1,hb⟩=>?_
  subst e_s1
  rw[m7,P0] at hx
  refine match hx with|⟨r,hr',e_s1⟩=>?_
  subst e_s1
  refine match jb hR hr' with|⟨p,hp,ca,da,qa,h1,h2,h3,h4⟩=>?_
  have hil:=(List.getElem?_eq_some_iff.mp hp).1
  refine ⟨r,.ref ca,.ref da,.ref qa,rfl,.of (g2 _ _ (gf _ _ h1)),_,rfl,_,rfl,(by show 2<=i8;decide),fun z hz=>⟨g2.trans (j4.new hz),hil,bs++[z],by rw[j7];rfl,?_⟩⟩
  rw[t6,hp]
  exact af ⟨_,_,i6,j4.new hz _ _ (g2 _ _ (gf _ _ h3)),j4.new hz _ _ (g2 _ _ (gf _ _ h4))⟩ (R2.mono hb fun a xs e=>j4.new hz _ _ e)
 refine match h with|⟨gx,_,sas,e_s1,hb⟩=>?_
 subst e_s1
 intro sa hp
 rw[b7,<- hlen,u5] at hb
 have gy:j4 H2 (v8 H2 sa (.lst (sas.map V.ref))):=j4.new hp
 have hsa:v8 H2 sa (.lst (sas.map V.ref)) sa=some (.lst (sas.map V.ref)):=i6
 have gs:=gx.trans gy
 have rs2:=R2.mono hb fun a xs e=>gy _ _ e
 try dsimp -proj only[T6]
 generalize v8 H2 sa (.lst (sas.map V.ref))=Hg at gy hsa gs rs2
 clear gx gy hb hp
 refine ⟨_,rfl,a,_,rfl,.inr (.of (gs _ _ <| gf _ _ <| g1 _ _ ha)),(n:Int),by rw[b7,hul],by lia,by lia,?_⟩
 refine T1 (lo:=0) (n:=n) (sz (by lia)) (fun i zs H2=>j4 Hg H2/\i<=n/\fH H2 (uG (gQ n) T i) zs) ⟨j4.refl _,j5 _,trivial⟩ (fun i zs H2 h=>?_) rfl (fun i zs H2 hi h=>?_) (fun zs1 H2 h=>?_)
 ·rw[h.2.2.len,ik]
 ·refine match h with|⟨g2,hil,hF⟩=>?_
  have e0:(0:Int)+(i:Int)=(i:Int):=by lia
  rw[e0]
  refine ⟨_,rfl,_,rfl,fa,i,n,20+5*k,LL ^ k,4 ^ (k*k),T,fas,gQ n,rfl,g2 _ _ (gs _ _ hfa),R2.mono rf (fun a xs e=>g2 _ _ (gs _ _ e)),u1,by lia,n4,hi,hE,hTl,bW k,e1,e2,fun r H3 g3 hr3=>⟨g2.trans g3,by lia,?_⟩⟩
  rw[rU]
  exact fH.snoc ⟨r,rfl,hr3⟩ (hF.mono fun a xs e=>g3 _ _ e)
 refine match h with|⟨gx,_,hF⟩=>?_
 intro p hp
 refine ⟨p,_,rfl,.inl ⟨.of i6,fun l1 hl=>?_⟩⟩
 have gy:j4 H2 (v8 (v8 H2 p (.lst zs1)) l1 (.tup zs1)):=(j4.new hp).trans (j4.new hl)
 have hl1:v8 (v8 H2 p (.lst zs1)) l1 (.tup zs1) l1=some (.tup zs1):=i6
 have gm1:=gx.trans gy
 have hF1:=hF.mono fun a xs e=>gy _ _ e
 generalize v8 (v8 H2 p (.lst zs1)) l1 (.tup zs1)=Hm at gy hl1 gm1 hF1
 clear gx gy hF hp hl
 refine ⟨_,rfl,a,_,rfl,.inr (.of (gm1 _ _ <| gs _ _ <| gf _ _ <| g1 _ _ ha)),(n:Int),by rw[b7,hul],by lia,by lia,?_⟩
 refine T1 (lo:=0) (n:=n) (sz (by lia)) (fun i zs H2=>j4 Hm H2/\i<=n/\fH H2 (uG (gS n) T i) zs) ⟨j4.refl _,j5 _,trivial⟩ (fun i zs H2 h=>?_) rfl (fun i zs H2 hi h=>?_) (fun zs2 H2 h=>?_)
 ·rw[h.2.2.len,ik]
 ·refine match h with|⟨g2,hil,hF⟩=>?_
  have e0:(0:Int)+(i:Int)=(i:Int):=by lia
  rw[e0]
  refine ⟨_,rfl,_,rfl,sa,i,n,20+5*k,LL ^ k,4 ^ (k*k),T,sas,gS n,rfl,g2 _ _ (gm1 _ _ hsa),R2.mono rs2 (fun a xs e=>g2 _ _ (gm1 _ _ e)),u2,by lia,n4,hi,hE,hTl,bW k,e1,e2,fun r H3 g3 hr3=>⟨g2.trans g3,by lia,?_⟩⟩
  rw[rU]
  exact fH.snoc ⟨r,rfl,hr3⟩ (hF.mono fun a xs e=>g3 _ _ e)
 refine match h with|⟨gx,_,hF⟩=>?_
 intro p hp
 refine ⟨p,_,rfl,.inl ⟨.of i6,fun l2 hl=>?_⟩⟩
 have gy:j4 H2 (v8 (v8 H2 p (.lst zs2)) l2 (.tup zs2)):=(j4.new hp).trans (j4.new hl)
 have hl2:v8 (v8 H2 p (.lst zs2)) l2 (.tup zs2) l2=some (.tup zs2):=i6
 have gm2:=gx.trans gy
 have hF2:=hF.mono fun a xs e=>gy _ _ e
 generalize v8 (v8 H2 p (.lst zs2)) l2 (.tup zs2)=Hs at gy hl2 gm2 hF2
 clear gx gy hF hp hl
 refine ⟨(by show 2<=i8;decide),fun p hp=>?_⟩
 have gp:j4 Hs (v8 Hs p (.tup [.ref l1,.ref l2])):=j4.new hp
 exact q p T _ (((((g1.trans gf).trans gs).trans gm1).trans gm2).trans gp) hT hO ⟨l1,l2,zs1,zs2,i6,gp _ _ (gm2 _ _ hl1),(hF1.mono fun a xs e=>gm2 _ _ e).mono fun a xs e=>gp _ _ e,gp _ _ hl2,hF2.mono fun a xs e=>gp _ _ e⟩
end
section
variable {P:f6}{w:j6}{K:m6}{mg:Str->Option b8}{base:Heap}{f:Addr}{fd:A7}{ec:Nat->Addr}{Bs:Addr}
noncomputable def rW (n:Nat) (d:w6):Bool:=X3 0 ((n:Int) - 1) d
theorem zG {n k:Nat} (h:k<n):rW n (.int (k:Int))=true:=by
 show (decide ((0:Int)<=(k:Int))&&decide ((k:Int)<=(n:Int) - 1))=true
 rw[decide_eq_true (by lia),decide_eq_true (by lia)];rfl
noncomputable def dH (ec:Nat->Addr):Sp:=fun vs H Q E=>∃(a st:Addr) (xs:List V) (v:V) (d:w6),vs=[.ref a,v]/\H a=some (.tup xs)/\Dt st H d v/\(rW xs.length d=true->Q .non H)/\(rW xs.length d=false->E (.ref (ec 2)) none H)
noncomputable abbrev eO:Stmt:=ef 26
theorem oB:A2 ["urn","thing"] ["urn","thing"] (u0 eO):=⟨rfl,rfl,rfl,by decide +kernel,rfl,by decide +kernel,by decide +kernel⟩
theorem pB (F:bC K "need_kind" "need_kind" eO f fd) (B:Bt mg) (R:sR K mg ec Bs) (c1:U4 P w K mg base 1 "is_whole" ["thing","low","high"] bu):L3 P w K mg base (jY P w) 2 f fd ["urn","thing"] (dH ec):=by
 refine F.okX oB (fun vs H Q E h=>?_) (fun cdv A outer s H vs Q E hr h=>?_)
 ·obtain ⟨a,st,xs,v,d,rfl,_⟩:=h
  rfl
 obtain ⟨a,st,xs,v,d,rfl,ha,hd,q1,q2⟩:=h
 refine ⟨_,q5 (T5 (cQ (bG (w5 c1 hr rfl (b6 (pv 1) (b6 j9 (b6 (D9 ur (A0 J6 rfl B.len J9 (b6 (pv 0) d8)) j9) d8)))))) (q5 (dj R.e2 (R.xc 2 (by decide)) uq (fun σ H Q Q' m q=>m _ _ q))) J1),?_⟩
 refine ⟨_,rfl,_,rfl,a,_,rfl,.inr (.of ha),_,_,rfl,rfl,_,st,d,0,_,rfl,hd,_,rfl,?_⟩
 unfold rW at q1 q2
 cases hw:X3 0 ((xs.length:Int) - 1) d with
 | true=>exact ak (q1 hw)
 | false=>exact bB (q2 hw)
end
end G
namespace G
open PySem PySem.Spec PyProof.Rows L2 Mt Md Mq
noncomputable def aJ (rs:List (List Int)):List Int:=rs.map List.sum
noncomputable def jV (rs:List (List Int)):Option Int:=if (aJ rs).all (fun s=>s == (aJ rs).headD 0)=true then some ((aJ rs).headD 0) else none
noncomputable def gV:Option Int->V
 | none=>.non
 | some g=>.int g
theorem zJ {rs:List (List Int)}{m M:Int} (hne:aJ rs≠[]) (hm:m∈aJ rs) (hM:M∈aJ rs) (h1:∀n∈aJ rs,m<=n) (h2:∀n∈aJ rs,n<=M):(m=M->jV rs=some ((aJ rs).headD 0))/\(m≠M->jV rs=none):=by
 have hd:(aJ rs).headD 0∈aJ rs:=by
  cases h:aJ rs with
  | nil=>exact absurd h hne
  | cons a l=>exact f7
 constructor
 ·intro e
  unfold jV
  rw[if_pos]
  refine List.all_eq_true.mpr fun s hs=>?_
  have a1:=h1 s hs
  have a2:=h2 s hs
  have b1:=h1 _ hd
  have b2:=h2 _ hd
  exact beq_iff_eq.mpr (by lia)
 ·intro e
  unfold jV
  rw[if_neg]
  intro z
  have a1:=beq_iff_eq.mp (List.all_eq_true.mp z m hm)
  have a2:=beq_iff_eq.mp (List.all_eq_true.mp z M hM)
  lia
theorem AU {n:Nat}:∀{r:List Int},Mt.zZ n 5 r->0<=r.sum/\r.sum<=5*(n:Int):=by
 intro r h
 have:∀(l:List Int),(∀x∈l,0<=x/\x<=((5:Nat):Int))->0<=l.sum/\l.sum<=5*(l.length:Int):=by
  intro l
  induction l with
  | nil=>intro _;decide
  | cons a l ih =>
   intro h
   have h1:=h a f7
   have h2:=ih fun x hx=>h x (i3 _ hx)
   rw[P8,p4]
   lia
 have z:=this r h.nn
 rw[h.len] at z
 exact z
theorem BF {n:Nat}{rs:List (List Int)}{g:Int} (h:Mt.jW n 5 rs) (h1:1<=n) (e:jV rs=some g):0<=g/\g<=5*(n:Int):=by
 unfold jV at e
 split at e
 ·cases e
  cases hr:rs with
  | nil=>rw[hr] at h;have:=h.len;simp at this;lia
  | cons a l=>exact AU (h.row a (by rw[hr];exact f7))
 ·cases e
section
variable {P:f6}{w:j6}{K:m6}{mg:Str->Option b8}{base:Heap}{f:Addr}{fd:A7}{ec:Nat->Addr}{Bs:Addr}
noncomputable def dJ:Sp:=fun vs H Q _=>∃(v:V) (st:Addr) (rs:List (List Int)),vs=[v]/\Dt st H (DR rs) v/\1<=rs.length/\rs.length<=1000/\∀H',j4 H H'->Q (gV (jV rs)) H'
noncomputable abbrev eQ:Stmt:=ef 32
theorem gZ:A2 ["rule","sums"] ["rule"] (u0 eQ):=⟨rfl,rfl,rfl,by decide +kernel,rfl,by decide +kernel,by decide +kernel⟩
theorem pE (F:bC K "growth_of" "growth_of" eQ f fd) (B:Bt mg):L3 P w K mg base dA 1 f fd ["rule"] dJ:=by
 refine F.ok gZ (fun vs H Q E h=>?_) (fun cdv A outer s H vs Q E hr h=>?_)
 ·obtain ⟨v,st,rs,rfl,_⟩:=h
  rfl
 obtain ⟨v,st,rs,rfl,hd,h1,h1000,q⟩:=h
 refine ⟨_,m9 (cK (N:=["row"]) (ix:=[none]) (ifs:=[]) (tc:=M0) (i:=1) rfl gZ.nd rfl rfl (oW (pv 0)) (fun s H ex=>Q5 (i:=0) (by decide +kernel) rfl (t5 rfl) (.inr rfl)) (fun s H ex=>D8)
   (fun s H ex=>A0 (AV (K:=K) rfl rfl) rfl B.sum fT (b6 (pv 0) d8)) rfl (by decide +kernel) (by rfl) (by rfl) (fun _=>rfl) (by rfl))
  (q5 (B8 (yW (P7 fO (A0 (qi rfl) rfl B.min boot_min (b6 (pv 1) d8)) (A0 (qj rfl) rfl B.max boot_max (b6 (pv 1) d8)) (N4 _)) (G9 Z5 (pv 1) j9 (fun _ _=>rfl)) DD))),?_⟩
 obtain ⟨r,xs,e,_,hr2,hds⟩:=hd.untup
 subst e
 have hl:=hds.len
 rw[b7] at hl
 refine ⟨_,rfl,r,rfl,⟨xs,.of hr2⟩,qm (K:=K) (a:=r) (xs:=xs) (sz (by lia)) (fun i ys H2=>j4 H H2/\i<=rs.length/\ys=((aJ rs).take i).map V.int) ⟨j4.refl H,j5 _,rfl⟩ (fun i ys H2 h=>?_) (fun i ys H2 _ h=>.of (h.1 _ _ hr2)) rfl (fun i ys H2 x hx h=>?_) (fun ys H2 h=>?_)⟩
 ·obtain ⟨_,hi,rfl⟩:=h
  rw[b7,m8];unfold aJ;rw[b7];lia
 ·obtain ⟨g2,hi,rfl⟩:=h
  obtain ⟨d,hd',dt⟩:=hds.get hx
  rw[m7] at hd'
  obtain ⟨row,hrow,ed⟩:=Option.map_eq_some_iff.mp hd'
  subst ed
  obtain ⟨b,eb,_,hb⟩:=dt.di
  subst eb
  refine ⟨_,rfl,b,row,rfl,.inr (.of (g2 _ _ hb)),g2,(List.getElem?_eq_some_iff.mp hrow).1,?_⟩
  have e2:(aJ rs)[i]?=some row.sum:=by unfold aJ;rw[m7,hrow];rfl
  rw[t6,e2,j7];rfl
 ·obtain ⟨g2,_,rfl⟩:=h
  intro p hp
  have e3:(aJ rs).take xs.length=aJ rs:=by rw[<- hl];exact C1 (by unfold aJ;rw[b7];exact d9 _)
  rw[e3]
  have hne:aJ rs≠[]:=fun z=>by
   have:(aJ rs).length=rs.length:=by unfold aJ;rw[b7]
   rw[z] at this;simp at this;lia
  have gg:j4 H (v8 H2 p (.lst ((aJ rs).map V.int))):=g2.trans (j4.new hp)
  have hp2:v8 H2 p (.lst ((aJ rs).map V.int)) p=some (.lst ((aJ rs).map V.int)):=i6
  refine ⟨_,rfl,p,aJ rs,rfl,.inl (.of hp2),hne,fun m hm hle=>⟨_,rfl,p,aJ rs,rfl,.inl (.of hp2),hne,fun M hM hge=>⟨rfl,_,rfl,?_⟩⟩⟩
  obtain ⟨a1,a2⟩:=zJ hne hm hM hle hge
  by_cases hmM:m=M
  ·subst hmM
   rw[decide_eq_true rfl]
   have:=q _ gg
   rw[a1 rfl] at this
   refine bB ⟨_,rfl,p,_,_,_,rfl,rfl,.of hp2,C6 (j:=0) ?_,this⟩
   cases hs:aJ rs with
   | nil=>exact absurd hs hne
   | cons a l=>rfl
  ·rw[decide_eq_false (show ¬ V.int m=V.int M from fun z=>hmM (by injection z))]
   have:=q _ gg
   rw[a2 hmM] at this
   exact ak this
noncomputable def fY:Sp:=fun vs H Q _=>∃(st:Addr) (v:V) (n:Nat) (rs:List (List Int)),vs=[.int n,v]/\Dt st H (DR rs) v/\Mt.jW n 5 rs/\1<=n/\n<=4/\∀H',j4 H H'->Q (gV (jV rs)) H'
noncomputable abbrev lh:Stmt:=ef 33
theorem xb:A2 ["kinds","rule"] ["kinds","rule"] (u0 lh):=⟨rfl,rfl,rfl,by decide +kernel,rfl,by decide +kernel,by decide +kernel⟩
theorem xm (F:bC K "growth" "growth" lh f fd) (c1:Z9 P w K mg base 4 "need_rule" ["kinds","thing"] (bR ec)) (c2:U4 P w K mg base 1 "growth_of" ["rule"] dJ):L3 P w K mg base (jY P w) 5 f fd ["kinds","rule"] fY:=by
 refine F.okX xb (fun vs H Q E h=>?_) (fun cdv A outer s H vs Q E hr h=>?_)
 ·obtain ⟨st,v,n,rs,rfl,_⟩:=h
  rfl
 obtain ⟨st,v,n,rs,rfl,hd,hR,n1,n4,q⟩:=h
 refine ⟨_,m9 (bS (O6 c1 hr rfl aA (b6 (pv 0) (b6 (pv 1) d8)))) (q5 (B8 (w5 (c2.up (by decide)) hr rfl (b6 (pv 1) d8)))),?_⟩
 have hlen:=hR.len
 have rok:=rn hR
 refine ⟨_,rfl,_,rfl,v,st,DR rs,n,rfl,by lia,by lia,hd,⟨qW (by lia),mT hR (by lia)⟩,fun _ H1 g1=>?_,fun z=>by rw[rok] at z;cases z⟩
 exact ⟨_,rfl,v,st,rs,rfl,hd.kp (g1.kp st),by lia,by lia,fun H2 g2=>q H2 (g1.trans g2)⟩
noncomputable def tT:Sp:=fun vs H Q _=>∃(st a:Addr) (n k:Nat) (ns:List Int),vs=[.ref a,.int k]/\Dt st H (DI ns) (.ref a)/\Mt.Y9 n 20 ns/\1<=n/\n<=4/\k<n/\∀p H',j4 H H'->H' p=some (.tup ((fr (Mt.Q0 ns k)).map V.int))->Q (.ref p) H'
noncomputable def RefC (ec:Nat->Addr) (vs:List V) (H:Hp) (E:XK):Prop:=∃(st:Addr) (u x:V) (d g:w6) (i:Nat),vs=[u,x]/\Dt st H d u/\cn d/\Dt st H g x/\((i=0/\br 20 d=false) ∨ (i=2/\br 20 d=true/\rW (bA d) g=false))/\∀H',j4 H H'->E (.ref (ec i)) none H'
noncomputable def iW (ec:Nat->Addr):Sp:=fun vs H Q E=>RefC ec vs H E ∨ tT vs H Q E
noncomputable abbrev lj:Stmt:=ef 30
theorem xf:A2 ["urn","kind"] ["urn","kind"] (u0 lj):=⟨rfl,rfl,rfl,by decide +kernel,rfl,by decide +kernel,by decide +kernel⟩
theorem xn (F:bC K "chance" "chance" lj f fd) (c1:Z9 P w K mg base 5 "need_urn" ["thing"] (cI ec)) (c2:Z9 P w K mg base 2 "need_kind" ["urn","thing"] (dH ec)) (c3:U4 P w K mg base 3 "share" ["urn","kind"] eG):L3 P w K mg base (jY P w) 6 f fd ["urn","kind"] (iW ec):=by
 refine F.okX xf (fun vs H Q E h=>?_) (fun cdv A outer s H vs Q E hr h=>?_)
 ·rcases h with ⟨st,u,x,d,g,i,rfl,_⟩|⟨st,a,n,k,ns,rfl,_⟩
  ·rfl
  ·rfl
 refine ⟨_,m9 (bS (O6 c1 hr rfl aA (b6 (pv 0) d8))) (m9 (bS (O6 (c2.up (by decide)) hr rfl aA (b6 (pv 0) (b6 (pv 1) d8)))) (q5 (B8 (w5 (c3.up (by decide)) hr rfl (b6 (pv 0) (b6 (pv 1) d8)))))),?_⟩
 rcases h with ⟨st,u,x,d,g,i,rfl,hu,hus,hx,due,q⟩|⟨st,a,n,k,ns,rfl,hu,hU,n1,n4,hk,q⟩
 ·refine ⟨_,rfl,u,st,d,rfl,hu,hus,fun hw H1 g1=>?_,fun hw H1 g1=>?_⟩
  ·rcases due with ⟨_,z⟩|⟨rfl,_,z⟩
   ·rw[hw] at z;cases z
   obtain ⟨ns,e1,l1,l4,_⟩:=fo hw
   subst e1
   obtain ⟨a,e2,_,ha⟩:=hu.di
   subst e2
   rw[aD] at z
   refine ⟨_,rfl,_,rfl,a,st,_,x,g,rfl,g1 _ _ ha,hx.kp (g1.kp st),fun zt=>?_,fun _=>q H1 g1⟩
   rw[b7,z] at zt
   cases zt
  ·rcases due with ⟨rfl,_⟩|⟨_,z,_⟩
   ·exact q H1 g1
   ·rw[hw] at z;cases z
 ·obtain ⟨a',e,_,ha⟩:=hu.di
  cases e
  have uok:=oh hU n1 n4
  refine ⟨_,rfl,_,st,DI ns,rfl,hu,dh (by rw[hU.len];lia),fun _ H1 g1=>?_,(fun z=>by rw[uok] at z;cases z)⟩
  refine ⟨_,rfl,_,rfl,a,st,_,_,.int k,rfl,g1 _ _ ha,Dt.int _ _ _,fun _=>?_,fun z=>?_⟩
  ·exact ⟨_,rfl,_,rfl,a,n,20,ns,k,rfl,g1 _ _ ha,hU,n4,(by lia),hk,fun p H2 g2 hp=>q p H2 (g1.trans g2) hp⟩
  ·rw[b7,hU.len,zG hk] at z;cases z
end
section
variable {P:f6}{w:j6}{K:m6}{mg:Str->Option b8}{base:Heap}{f:Addr}{fd:A7}{ec:Nat->Addr}{Bs:Addr}
noncomputable def kR:Sp:=fun vs H Q _=>∃t b:Int,vs=[.int t,.int b]/\0<=t/\0<b/\b.natAbs.log2<9000/\∀p H',j4 H H'->H' p=some (.tup ((fr (cut t b)).map V.int))->Q (.ref p) H'
noncomputable abbrev yE:Stmt:=ef 48
theorem tY:A2 ["_law_top","_law_bottom","_law_one","_law_other"] ["_law_top","_law_bottom"] (u0 yE):=⟨rfl,rfl,rfl,by decide +kernel,rfl,by decide +kernel,by decide +kernel⟩
theorem DG (F:bC K "_law_fraction" "_law_fraction" yE f fd) (B:Bt mg):L3 P w K mg base dA 1 f fd ["_law_top","_law_bottom"] kR:=by
 refine F.ok tY (fun vs H Q E h=>?_) (fun cdv A outer s H vs Q E hr h=>?_)
 ·obtain ⟨x,y,rfl,_⟩:=h
  rfl
 obtain ⟨t,b,rfl,ht,hb,hlog,q⟩:=h
 refine ⟨_,m9 (lq (i:=2) (j:=3) rfl tY.nd rfl rfl (by decide) rfl rfl (b6 (pv 1) (b6 (A0 sG rfl B.abs boot_abs (b6 (pv 0) d8)) d8)) rfl)
  (m9 (rC E3 (P7 rJ (pv 3) j9 (N4 _)) (q5 (lq (i:=2) (j:=3) rfl tY.nd rfl rfl (by decide) rfl rfl (b6 (pv 3) (b6 (D9 cR (pv 2) (pv 3)) d8)) rfl)))
  (q5 (B8 (O5 (b6 (D9 ic (pv 0) (pv 2)) (b6 (D9 ic (pv 1) (pv 2)) d8)))))),?_⟩
 have g:=wc (t:=t) hb hlog
 refine ⟨_,rfl,_,rfl,t,rfl,_,_,rfl,?_⟩
 rw[if_neg (show ¬ t<0 by lia)]
 refine ⟨fun m σ H2=>H2=H/\∃x' y':Int,0<=x'/\0<=y'/\σ=[some (.int t),some (.int b),some (.int x'),some (.int y')]/\m=y'.toNat/\O4 x' y'=O4 t b,⟨_,rfl,b,t,by lia,ht,rfl,rfl,Int.gcd_comm b t⟩,?_⟩
 rintro m σ H2 ⟨rfl,x',y',h1,h2,rfl,rfl,e⟩
 refine ⟨_,rfl,_,_,rfl,rfl,_,rfl,?_⟩
 by_cases hz:0<y'
 ·rw[decide_eq_true hz]
  refine bB ⟨fun σ' H'=>H'=H2/\∃a c:Int,0<=a/\0<=c/\σ'=[some (.int t),some (.int b),some (.int a),some (.int c)]/\c.toNat<y'.toNat/\O4 a c=O4 t b,?_,?_⟩
  ·rintro σ' H' ⟨rfl,a,c,ha,hc,rfl,hlt,e2⟩
   exact ⟨_,hlt,rfl,a,c,ha,hc,rfl,rfl,e2⟩
  ·have hm:=aI x' (show y'≠0 by lia)
   have hm2:=W3 x' hz
   refine ⟨_,rfl,_,rfl,_,rfl,_,_,rfl,rfl,hz,_,_,rfl,?_⟩
   exact ⟨rfl,y',x' % y',h2,hm,rfl,by lia,by rw[se h1 hz];exact e⟩
 ·rw[decide_eq_false hz]
  have hy:y'=0:=by lia
  subst hy
  have e2:x'=((O4 t b:Nat):Int):=by rw[<- e,AI];lia
  subst e2
  refine ak ⟨_,rfl,_,rfl,_,_,rfl,rfl,g,_,rfl,_,rfl,_,_,rfl,rfl,g,(by show 2<=i8;decide),fun p hp=>?_⟩
  refine q p _ (j4.new hp) ?_
  rw[i6,zM hb];rfl
noncomputable abbrev Dr:Stmt:=ef 50
theorem FP:A2 ["_law_one","_law_other"] ["_law_one","_law_other"] (u0 Dr):=⟨rfl,rfl,rfl,by decide +kernel,rfl,by decide +kernel,by decide +kernel⟩
theorem Gv (F:bC K "_law_by" "_law_by" Dr f fd) (c1:U4 P w K mg base 1 "_law_fraction" ["_law_top","_law_bottom"] kR):L3 P w K mg base dA 2 f fd ["_law_one","_law_other"] bt:=by
 refine F.ok FP (fun vs H Q E h=>?_) (fun cdv A outer s H vs Q E hr h=>?_)
 ·obtain ⟨p,q,x,y,n,m,rfl,_⟩:=h
  rfl
 obtain ⟨p,q,x,y,n,m,rfl,hp,hq,x0,y0,bx,by',hnm,k⟩:=h
 refine ⟨_,q5 (B8 (w5 c1 hr rfl (b6 (D9 aZ (G9 L5 (pv 0) j9 (fun _ _=>rfl)) (G9 L5 (pv 1) j9 (fun _ _=>rfl))) (b6 (D9 aZ (G9 L5 (pv 0) j9 (fun _ _=>rfl)) (G9 L5 (pv 1) j9 (fun _ _=>rfl))) d8)))),?_⟩
 have hp':H p=some (.tup [.int x.num,.int x.den]):=hp
 have hq':H q=some (.tup [.int y.num,.int y.den]):=hq
 have b1:t9 x.num<=2 ^ 20:=S5 bx.num (by lia)
 have b2:t9 y.num<=2 ^ 20:=S5 by'.num (by lia)
 have b3:t9 (x.den:Int)<=2 ^ 20:=S5 (by rw[K7];exact bx.den) (by lia)
 have b4:t9 (y.den:Int)<=2 ^ 20:=S5 (by rw[K7];exact by'.den) (by lia)
 refine ⟨_,rfl,p,_,_,_,rfl,rfl,.of hp',C6 (j:=0) rfl,_,rfl,q,_,_,_,rfl,rfl,.of hq',C6 (j:=0) rfl,_,_,rfl,rfl,⟨b1,b2⟩,
  _,rfl,p,_,_,_,rfl,rfl,.of hp',C6 (j:=1) rfl,_,rfl,q,_,_,_,rfl,rfl,.of hq',C6 (j:=1) rfl,_,_,rfl,rfl,⟨b3,b4⟩,_,_,rfl,?_,?_,?_,?_⟩
 ·exact bp x0 y0
 ·have h1:=x.den_nz;have h2:=y.den_nz
  have:=aK (N6 h1) (N6 h2)
  rw[<- X2];lia
 ·rw[ck (by have h1:=x.den_nz;have h2:=y.den_nz;rw[U7];exact X0 (by lia) (by lia)),U7]
  refine F3 (u4 bx.den by'.den) ?_
  rw[<- D5]
  exact S7 (by decide) (by lia)
 ·rw[wt];exact k
noncomputable abbrev oK:Stmt:=ef 49
theorem yC:A2 ["_law_one","_law_other"] ["_law_one","_law_other"] (u0 oK):=⟨rfl,rfl,rfl,by decide +kernel,rfl,by decide +kernel,by decide +kernel⟩
theorem zl (F:bC K "_law_plus" "_law_plus" oK f fd) (c1:U4 P w K mg base 1 "_law_fraction" ["_law_top","_law_bottom"] kR):L3 P w K mg base dA 2 f fd ["_law_one","_law_other"] aw:=by
 refine F.ok yC (fun vs H Q E h=>?_) (fun cdv A outer s H vs Q E hr h=>?_)
 ·obtain ⟨p,q,x,y,n,m,rfl,_⟩:=h
  rfl
 obtain ⟨p,q,x,y,n,m,rfl,hp,hq,x0,y0,bx,by',hnm,k⟩:=h
 refine ⟨_,q5 (B8 (w5 c1 hr rfl (b6 (D9 aR (D9 aZ (G9 L5 (pv 0) j9 (fun _ _=>rfl)) (G9 L5 (pv 1) j9 (fun _ _=>rfl))) (D9 aZ (G9 L5 (pv 1) j9 (fun _ _=>rfl)) (G9 L5 (pv 0) j9 (fun _ _=>rfl)))) (b6 (D9 aZ (G9 L5 (pv 0) j9 (fun _ _=>rfl)) (G9 L5 (pv 1) j9 (fun _ _=>rfl))) d8)))),?_⟩
 have hp':H p=some (.tup [.int x.num,.int x.den]):=hp
 have hq':H q=some (.tup [.int y.num,.int y.den]):=hq
 have b1:t9 x.num<=2 ^ 20:=S5 bx.num (by lia)
 have b2:t9 y.num<=2 ^ 20:=S5 by'.num (by lia)
 have b3:t9 (x.den:Int)<=2 ^ 20:=S5 (by rw[K7];exact bx.den) (by lia)
 have b4:t9 (y.den:Int)<=2 ^ 20:=S5 (by rw[K7];exact by'.den) (by lia)
 refine ⟨_,rfl,p,_,_,_,rfl,rfl,.of hp',C6 (j:=0) rfl,_,rfl,q,_,_,_,rfl,rfl,.of hq',C6 (j:=1) rfl,_,_,rfl,rfl,⟨b1,b4⟩,
  _,rfl,q,_,_,_,rfl,rfl,.of hq',C6 (j:=0) rfl,_,rfl,p,_,_,_,rfl,rfl,.of hp',C6 (j:=1) rfl,_,_,rfl,rfl,⟨b2,b3⟩,_,_,rfl,rfl,
  _,rfl,p,_,_,_,rfl,rfl,.of hp',C6 (j:=1) rfl,_,rfl,q,_,_,_,rfl,rfl,.of hq',C6 (j:=1) rfl,_,_,rfl,rfl,⟨b3,b4⟩,_,_,rfl,?_,?_,?_,?_⟩
 ·exact Fm (bp x0 (by lia)) (bp y0 (by lia))
 ·have h1:=x.den_nz;have h2:=y.den_nz
  have:=aK (N6 h1) (N6 h2)
  rw[<- X2];lia
 ·rw[ck (by have h1:=x.den_nz;have h2:=y.den_nz;rw[U7];exact X0 (by lia) (by lia)),U7]
  refine F3 (u4 bx.den by'.den) ?_
  rw[<- D5]
  exact S7 (by decide) (by lia)
 ·rw[wz];exact k
end
end G
namespace G
open PySem PySem.Spec PyProof.Rows L2 Mt Md Mq M8
section
variable {P:f6}{w:j6}{K:m6}{mg:Str->Option b8}{base:Heap}{f:Addr}{fd:A7}{ec:Nat->Addr}{Bs:Addr}
noncomputable abbrev kY:Stmt:=ef 51
theorem cJ:A2 ["_law_some","_law_found","_law_one"] ["_law_some"] (u0 kY):=⟨rfl,rfl,rfl,by decide +kernel,rfl,by decide +kernel,by decide +kernel⟩
noncomputable def vt:Sp:=fun vs H Q _=>∃(a:Addr) (ys:List V) (xs:List Rat) (N B n:Nat),vs=[.ref a]/\H a=some (.lst ys)/\fH H xs ys/\(∀x∈xs,Vq N B x)/\0<N/\N*(B*xs.length+B)<=2 ^ n/\N<=2 ^ n/\n<=4000 /\
 ∀r H',j4 H H'->H' r=some (.tup ((fr (P9 xs)).map V.int))->Q (.ref r) H'
theorem vP (F:bC K "_law_total" "_law_total" kY f fd) (c1:U4 P w K mg base 2 "_law_plus" ["_law_one","_law_other"] aw):L3 P w K mg base dA 3 f fd ["_law_some"] vt:=by
 refine F.ok cJ (fun vs H Q E h=>?_) (fun cdv A outer s H vs Q E hr h=>?_)
 ·obtain ⟨a,ys,xs,N,B,n,rfl,_⟩:=h
  rfl
 obtain ⟨a,ys,xs,N,B,n,rfl,ha,hx,hv,h0,h1,h2,hn,q⟩:=h
 refine ⟨_,m9 (G4 (i:=1) cJ.nd rfl (t5 rfl) (O5 (b6 j9 (b6 j9 d8))))
  (m9 (bH E3 rfl (V2 (pv 0)) (O0 (i:=2) cJ.nd rfl (t5 rfl))
   (q5 (G4 (i:=1) cJ.nd rfl (t5 rfl) (w5 c1 hr rfl (b6 (pv 1) (b6 (pv 2) d8))))))
  (q5 (B8 (pv 1)))),?_⟩
 refine ⟨(by show 2<=i8;decide),fun c hc=>?_⟩
 have s2:j4 H (v8 H c (.tup [.int 0,.int 1])):=j4.new hc
 refine ⟨_,rfl,a,rfl,⟨_,.of (s2 _ _ ha)⟩,?_⟩
 refine iq (K:=K) (a:=a) (xs:=ys) (fun i σ H2=>j4 H H2/\i<=ys.length/\∃c o,σ=[some (.ref a),some (.ref c),o]/\H2 c=some (.tup ((fr (P9 (xs.take i))).map V.int)))
  ⟨s2,j5 _,c,none,rfl,i6⟩ (fun i σ H2 _ h=>.of (h.1 _ _ ha)) (fun i t σ H2 ht h=>?_) (fun σ H2 h=>?_)
 ·obtain ⟨g2,hi,c,o,rfl,hc2⟩:=h
  obtain ⟨x,ex,q',rfl,hq'⟩:=hx.get ht
  have hil:=(List.getElem?_eq_some_iff.mp ex).1
  have v1:Vq N B x:=hv x (t7 ex)
  have v2:Vq N (B*xs.length) (P9 (xs.take i)):=(gT fun y hy=>hv y (v7 hy)).mono (B0 _ (by rw[m8];lia))
  have d1:Bd n x:=v1.bd h0 (f9 (B0 _ (K5 _ _)) h1) h2
  have d2:Bd n (P9 (xs.take i)):=v2.bd h0 (f9 (B0 _ (u9 _ _)) h1) h2
  refine ⟨_,rfl,_,rfl,c,q',P9 (xs.take i),x,n,n,rfl,hc2,g2 _ _ hq',Rat.num_nonneg.mpr v2.nn,Rat.num_nonneg.mpr v1.nn,d2,d1,by lia,fun r H3 g3 hr3=>⟨g2.trans g3,(List.getElem?_eq_some_iff.mp ht).1,r,_,rfl,?_⟩⟩
  rw[t6,ex]
  show _=some (HO.tup ((fr (P9 (xs.take i++[x]))).map V.int))
  rw[iU];exact hr3
 ·obtain ⟨g2,_,c,o,rfl,hc2⟩:=h
  rw[hx.len,u5] at hc2
  exact ⟨_,rfl,q c H2 g2 hc2⟩
noncomputable def qT:Sp:=fun vs H Q _=>∃(a:Addr) (ys:List V) (xs:List Rat) (N B n:Nat),vs=[.ref a]/\H a=some (.tup ys)/\fH H xs ys/\(∀x∈xs,Vq N B x)/\0<N/\N*(B*xs.length+B)<=2 ^ n/\N<=2 ^ n/\n<=4000 /\
 ∀r H',j4 H H'->H' r=some (.tup ((fr (P9 xs)).map V.int))->Q (.ref r) H'
theorem rL (F:bC K "_law_total" "_law_total" kY f fd) (c1:U4 P w K mg base 2 "_law_plus" ["_law_one","_law_other"] aw):L3 P w K mg base dA 3 f fd ["_law_some"] qT:=by
 refine F.ok cJ (fun vs H Q E h=>?_) (fun cdv A outer s H vs Q E hr h=>?_)
 ·obtain ⟨a,ys,xs,N,B,n,rfl,_⟩:=h
  rfl
 obtain ⟨a,ys,xs,N,B,n,rfl,ha,hx,hv,h0,h1,h2,hn,q⟩:=h
 refine ⟨_,m9 (G4 (i:=1) cJ.nd rfl (t5 rfl) (O5 (b6 j9 (b6 j9 d8))))
  (m9 (bH E3 rfl (oW (pv 0)) (O0 (i:=2) cJ.nd rfl (t5 rfl))
   (q5 (G4 (i:=1) cJ.nd rfl (t5 rfl) (w5 c1 hr rfl (b6 (pv 1) (b6 (pv 2) d8))))))
  (q5 (B8 (pv 1)))),?_⟩
 refine ⟨(by show 2<=i8;decide),fun c hc=>?_⟩
 have s2:j4 H (v8 H c (.tup [.int 0,.int 1])):=j4.new hc
 refine ⟨_,rfl,a,rfl,⟨_,.of (s2 _ _ ha)⟩,?_⟩
 refine BG (K:=K) (a:=a) (xs:=ys) (fun i σ H2=>j4 H H2/\i<=ys.length/\∃c o,σ=[some (.ref a),some (.ref c),o]/\H2 c=some (.tup ((fr (P9 (xs.take i))).map V.int)))
  ⟨s2,j5 _,c,none,rfl,i6⟩ (fun i σ H2 _ h=>.of (h.1 _ _ ha)) (fun i t σ H2 ht h=>?_) (fun σ H2 h=>?_)
 ·obtain ⟨g2,hi,c,o,rfl,hc2⟩:=h
  obtain ⟨x,ex,q',rfl,hq'⟩:=hx.get ht
  have hil:=(List.getElem?_eq_some_iff.mp ex).1
  have v1:Vq N B x:=hv x (t7 ex)
  have v2:Vq N (B*xs.length) (P9 (xs.take i)):=(gT fun y hy=>hv y (v7 hy)).mono (B0 _ (by rw[m8];lia))
  have d1:Bd n x:=v1.bd h0 (f9 (B0 _ (K5 _ _)) h1) h2
  have d2:Bd n (P9 (xs.take i)):=v2.bd h0 (f9 (B0 _ (u9 _ _)) h1) h2
  refine ⟨_,rfl,_,rfl,c,q',P9 (xs.take i),x,n,n,rfl,hc2,g2 _ _ hq',Rat.num_nonneg.mpr v2.nn,Rat.num_nonneg.mpr v1.nn,d2,d1,by lia,fun r H3 g3 hr3=>⟨g2.trans g3,(List.getElem?_eq_some_iff.mp ht).1,r,_,rfl,?_⟩⟩
  rw[t6,ex]
  show _=some (HO.tup ((fr (P9 (xs.take i++[x]))).map V.int))
  rw[iU];exact hr3
 ·obtain ⟨g2,_,c,o,rfl,hc2⟩:=h
  rw[hx.len,u5] at hc2
  exact ⟨_,rfl,q c H2 g2 hc2⟩
end
end G
namespace M8
open PySem PySem.Spec L2 Mt Md Mq HP
noncomputable def Gi (n:Nat) (rs:List (List Int)) (φ:List Int->Rat) (k:List Int):Rat:=P9 ((el rs (k.take n) (k.drop n) n).map fun b=>cut b.1 (k.take n).sum*φ b.2)
theorem jl (n:Nat) (rs:List (List Int)) (φ:List Int->Rat):∀(T D:v5),M5 (F1 n rs T D) φ=M5 D φ+M5 T (Gi n rs φ)
 | [],D=>by unfold F1;show _=_+0;rw[kC]
 | p::T,D=>by
  unfold F1
  rw[jl n rs φ T,nu,C5,Rat.add_assoc];rfl
noncomputable def ops (n:Nat) (rs:List (List Int)):Nat->(List Int->Rat)->List Int->Rat
 | 0,φ=>φ
 | k+1,φ=>ops n rs k (Gi n rs φ)
theorem kh (n:Nat) (rs:List (List Int)):∀(k:Nat) (T:v5) (φ:List Int->Rat),M5 (ao n rs k T) φ=M5 T (ops n rs k φ)
 | 0,_,_=>rfl
 | k+1,T,φ=>by
  show M5 (F1 n rs (ao n rs k T) []) φ=_
  rw[jl,kh n rs k T]
  show 0+_=_
  rw[kB];rfl
theorem il (x:List Int) (φ:List Int->Rat):M5 [(x,1)] φ=φ x:=by
 rw[C5]
 show 1*φ x+0=φ x
 rw[Rat.one_mul,kC]
theorem vN (n:Nat) (rs:List (List Int)):∀(a b:Nat) (φ:List Int->Rat),ops n rs (a+b) φ=ops n rs a (ops n rs b φ)
 | a,0,_=>rfl
 | a,b+1,φ=>vN n rs a b (Gi n rs φ)
variable {n:Nat}{rs:List (List Int)}
theorem zA (a b:Nat) (x:List Int) (φ:List Int->Rat):M5 (ao n rs (a+b) [(x,1)]) φ=M5 (ao n rs a [(x,1)]) (fun y=>M5 (ao n rs b [(y,1)]) φ):=by
 rw[kh,kh,il,il,vN]
 congr 1
 funext y
 rw[kh,il]
theorem vo {rs:List (List Int)}{u v:List Int} (hu:0<u.sum):∀i:Nat,(∀b∈u,0<=b)->P9 ((el rs u v i).map fun b=>cut b.1 u.sum*1)=Am u i
 | 0,_=>by
  unfold el Am
  show 0=cut 0 _
  rw[lM hu]
 | i+1,h=>by
  unfold el
  rw[j7,ae,vo hu i h,rB hu]
  congr 1
  unfold Q0
  by_cases e:0<u.getD i 0
  ·rw[if_pos e]
   show cut _ _*1+0=_
   rw[yb,kC]
  ·rw[if_neg e]
   have z:u.getD i 0=0:=by
    have:0<=u.getD i 0:=by
     by_cases hl:i<u.length
     ·rw[t8,d0 hl];exact h _ (C4 hl)
     ·rw[t8,bD (by lia)];exact aL 0
    lia
   rw[z,lM hu];rfl
variable {m:Nat}
theorem Bp {k:List Int} (h:Uu n m k):Gi n rs (fun _=>1) k=1:=by
 unfold Gi
 rw[vo h.one.pos n fun b hb=>(h.one.nn b hb).1]
 have:=vG h.one.pos
 rwa [h.one.len] at this
theorem pM {φ ψ:List Int->Rat}:∀{T:v5},(∀p∈T,φ p.1=ψ p.1)->M5 T φ=M5 T ψ
 | [],_=>rfl
 | p::T,h=>by rw[C5,C5,h p (.head _),pM fun q hq=>h q (.tail _ hq)]
theorem Cq {n:Nat}{rs:List (List Int)}{u v:List Int} (hR:jW n 5 rs) (n4:n<=4) (hu:Y9 n 20 u) (hv:Y9 n 20 v):∀k:Nat,k<=6->M5 (ao n rs k [(u++v,1)]) (fun _=>1)=1
 | 0,_=>il _ _
 | k+1,hk=>by
  show M5 (F1 n rs (ao n rs k [(u++v,1)]) []) _=1
  rw[jl]
  show 0+_=_
  rw[kB,pM (ψ:=fun _=>1) fun p hp=>Bp ((gD hR n4 hu hv k (by lia)).1 p hp)]
  exact Cq hR n4 hu hv k (by lia)
theorem zy {o:Bool}{n:Nat} (φ:List Int->Rat):∀T:v5,M5 (Dh o n T) φ=M5 T (fun k=>φ (sg o n k))
 | []=>rfl
 | p::T=>by
  show M5 ((sg o n p.1,p.2)::Dh o n T) φ=_
  rw[C5,C5,zy φ T]
variable {u v:List Int}
theorem AN {k:Nat}(hR:jW n 5 rs) (n4:n<=4) (hu:Y9 n 20 u) (hv:Y9 n 20 v) (hk:k<=6):M5 (tw n rs k u v) (fun _=>1)=1:=by
 rw[vn,zy];exact Cq hR n4 hu hv k hk
theorem qf {n:Nat}{rs:List (List Int)}{u v:List Int}{g:Int} (hR:jW n 5 rs) (n4:n<=4) (hu:Y9 n 20 u) (hv:Y9 n 20 v) (hg:∀r∈rs,r.sum=g):∀k:Nat,k<=6->∀p∈ao n rs k [(u++v,1)],
  (k % 2=0->(p.1.take n).sum=u.sum+g*((k / 2:Nat):Int)/\(p.1.drop n).sum=v.sum+g*((k - k / 2:Nat):Int))/\(k % 2=1->(p.1.drop n).sum=u.sum+g*((k / 2:Nat):Int)/\(p.1.take n).sum=v.sum+g*((k - k / 2:Nat):Int))
 | 0,_,p,hp=>by
  rw[List.mem_singleton.mp hp]
  obtain ⟨e1,e2⟩:=Z8 (v:=v) hu.len
  refine ⟨fun _=>?_,fun h=>by lia⟩
  show ((u++v).take n).sum=_/\((u++v).drop n).sum=_
  rw[e1,e2]
  simp
 | k+1,hk,p,hp=>by
  rcases eW (D:=[]) hp with ⟨q,hq,b,hb,e⟩|⟨q,hq,_⟩
  ·obtain ⟨j,hj,rfl⟩:=lE b hb
   have ku:=(gD hR n4 hu hv k (by lia)).1 q hq
   have ih:=qf hR n4 hu hv hg k (by lia) q hq
   have rj:(rs.getD j []).length=n/\(rs.getD j []).sum=g:=by
    have hl:j<rs.length:=by rw[hR.len];exact hj
    rw[t8,d0 hl]
    exact ⟨(hR.row _ (C4 hl)).len,hg _ (C4 hl)⟩
   have l1:(N7 (q.1.drop n) (rs.getD j [])).length=n:=by
    unfold N7
    rw[aa,ku.two.len,rj.1];exact Ie n
   obtain ⟨e1,e2⟩:=Z8 (v:=q.1.take n) l1
   have e':p.1=N7 (q.1.drop n) (rs.getD j [])++q.1.take n:=e
   rw[e',e1,e2,lO (by rw[ku.two.len,rj.1]),rj.2]
   have hd:∀a:Nat,g*((a+1:Nat):Int)=g*(a:Int)+g:=fun a=>by rw[EB,Int.mul_add];simp
   refine ⟨fun h=>?_,fun h=>?_⟩
   ·obtain ⟨i1,i2⟩:=ih.2 (by lia)
    have z1:(k+1) / 2=k / 2+1:=by lia
    have z2:k+1 - (k / 2+1)=k - k / 2:=by lia
    rw[i1,i2,z1,z2,hd]
    exact ⟨by lia,rfl⟩
   ·obtain ⟨i1,i2⟩:=ih.1 (by lia)
    have z1:(k+1) / 2=k / 2:=by lia
    have z2:k+1 - k / 2=k - k / 2+1:=by lia
    rw[i1,i2,z1,z2,hd]
    exact ⟨rfl,by lia⟩
  ·simp at hq
theorem ni {n:Nat}{rs:List (List Int)}{k:List Int}:∀{T D:v5},k∈(F1 n rs T D).map (·.1) ↔ (∃p∈T,∃b∈el rs (p.1.take n) (p.1.drop n) n,b.2=k) ∨ k∈D.map (·.1)
 | [],D=>by unfold F1;simp
 | p::T,D=>by
  unfold F1
  rw[ni]
  constructor
  ·rintro (⟨q,hq,r⟩|h)
   ·exact .inl ⟨q,.tail _ hq,r⟩
   ·obtain ⟨z,hz,e⟩:=List.mem_map.mp h
    rcases gu hz with ⟨b,hb,e2⟩|⟨r,hr,e2⟩
    ·exact .inl ⟨p,.head _,b,hb,by rw[<- e,e2]⟩
    ·exact .inr (List.mem_map.mpr ⟨r,hr,by rw[e2,e]⟩)
  ·rintro (⟨q,hq,r⟩|h)
   ·rcases List.mem_cons.mp hq with rfl|hq
    ·exact .inr (lI (.inl r))
    ·exact .inl ⟨q,hq,r⟩
   ·exact .inr (lI (.inr h))
variable {T:v5}
theorem pG {k:List Int}:k∈(F1 n rs T []).map (·.1) ↔ ∃y∈T.map (·.1),∃b∈el rs (y.take n) (y.drop n) n,b.2=k:=by
 rw[ni]
 constructor
 ·rintro (⟨p,hp,r⟩|h)
  ·exact ⟨p.1,List.mem_map.mpr ⟨p,hp,rfl⟩,r⟩
  ·simp at h
 ·rintro ⟨y,hy,r⟩
  obtain ⟨p,hp,rfl⟩:=List.mem_map.mp hy
  exact .inl ⟨p,hp,r⟩
theorem kg {n:Nat}{rs:List (List Int)}:∀(b:Nat) {T:v5}{k:List Int},k∈(ao n rs b T).map (·.1) ↔ ∃y∈T.map (·.1),k∈(ao n rs b [(y,1)]).map (·.1)
 | 0,T,k=>by
  show k∈T.map (·.1) ↔ ∃y∈T.map (·.1),k∈([(y,1)]:v5).map (·.1)
  constructor
  ·exact fun h=>⟨k,h,by simp⟩
  ·rintro ⟨y,hy,h⟩
   have:k=y:=by simpa using h
   rw[this];exact hy
 | b+1,T,k=>by
  show k∈(F1 n rs (ao n rs b T) []).map (·.1) ↔ ∃y∈T.map (·.1),k∈(F1 n rs (ao n rs b [(y,1)]) []).map (·.1)
  rw[pG]
  constructor
  ·rintro ⟨z,hz,r⟩
   obtain ⟨y,hy,h⟩:=(kg b).mp hz
   exact ⟨y,hy,pG.mpr ⟨z,h,r⟩⟩
  ·rintro ⟨y,hy,h⟩
   obtain ⟨z,hz,r⟩:=pG.mp h
   exact ⟨z,(kg b).mpr ⟨y,hy,hz⟩,r⟩
theorem qh (n:Nat) (rs:List (List Int)) (a:Nat) (T:v5):∀b:Nat,ao n rs (a+b) T=ao n rs b (ao n rs a T)
 | 0=>rfl
 | b+1=>by
  show F1 n rs (ao n rs (a+b) T) []=F1 n rs (ao n rs b (ao n rs a T)) []
  rw[qh n rs a T b]
structure vc (n m N B:Nat) (D:v5) (S:(List Int->Rat)->Rat) (ks:List Int->Prop):Prop where
 keys:KU n m D
 nd:bI D
 all:aF N B D
 lin:∀φ,M5 D φ=S φ
 mem:∀k,k∈D.map (·.1) ↔ ks k
theorem vc.nil (n m N:Nat):vc n m N 0 [] (fun _=>0) (fun _=>False):=
 ⟨fun p hp=>by simp at hp,by unfold bI;simp,fun p hp=>by simp at hp,fun _=>rfl,fun k=>by simp⟩
theorem vc.add {n m N B C:Nat}{D:v5}{S:(List Int->Rat)->Rat}{ks:List Int->Prop}{k:List Int}{x:Rat} (h:vc n m N B D S ks) (hk:Uu n m k) (hx:Vq N C x):
  vc n m N (B+C) (U9 D k x) (fun φ=>S φ+x*φ k) (fun z=>z=k ∨ ks z) where
 keys:=fun p hp=>by
  rcases cg hp with e|⟨q,hq,e⟩
  ·rw[e];exact hk
  ·rw[<- e];exact h.keys q hq
 nd:=pI h.nd
 all:=aF.add hx h.all
 lin:=fun φ=>by rw[lG,h.lin]
 mem:=fun z=>by
  constructor
  ·intro hz
   obtain ⟨p,hp,rfl⟩:=List.mem_map.mp hz
   rcases cg hp with e|⟨q,hq,e⟩
   ·exact .inl e
   ·exact .inr ((h.mem _).mp (List.mem_map.mpr ⟨q,hq,e⟩))
  ·rintro (e|e)
   ·exact vW (.inl e)
   ·exact vW (.inr ((h.mem _).mpr e))
variable {D:v5}
theorem vc.eqS {N B:Nat}{S S':(List Int->Rat)->Rat}{ks ks':List Int->Prop} (h:vc n m N B D S ks) (e1:∀φ,S φ=S' φ) (e2:∀k,ks k ↔ ks' k):vc n m N B D S' ks' :=
 ⟨h.keys,h.nd,h.all,fun φ=>(h.lin φ).trans (e1 φ),fun k=>(h.mem k).trans (e2 k)⟩
theorem vc.mono {n m N B B':Nat}{D:v5}{S:(List Int->Rat)->Rat}{ks:List Int->Prop} (h:vc n m N B D S ks) (hB:B<=B'):vc n m N B' D S ks :=
 ⟨h.keys,h.nd,h.all.mono hB,h.lin,h.mem⟩
theorem Gw {U:v5} (h:bI D) (k:∀z∈D.map (·.1),z∈U.map (·.1)):D.length<=U.length:=by
 unfold bI at h
 have:=List.Nodup.length_le_of_subset h (l₂:=U.map (·.1)) fun z hz=>k z hz
 simpa using this
theorem tN {N B:Nat}{x:List Int}(h:vc n m N B D (fun φ=>M5 T (fun y=>M5 (ao n rs 2 [(y,1)]) φ)) (fun k=>∃p∈T,k∈(ao n rs 2 [(p.1,1)]).map (·.1))) (hT:T.Perm (ao n rs 2 [(x,1)])) (hnd:bI (ao n rs 4 [(x,1)])):D.Perm (ao n rs 4 [(x,1)]):=by
 refine rD h.nd hnd (fun k=>?_) (fun k=>?_)
 ·rw[h.mem,show (4:Nat)=2+2 from rfl,qh n rs 2 [(x,1)] 2,kg 2]
  constructor
  ·rintro ⟨p,hp,hk⟩
   exact ⟨p.1,List.mem_map.mpr ⟨p,hT.mem_iff.mp hp,rfl⟩,hk⟩
  ·rintro ⟨y,hy,hk⟩
   obtain ⟨p,hp,rfl⟩:=List.mem_map.mp hy
   exact ⟨p,hT.mem_iff.mpr hp,hk⟩
 ·rw[<- vS h.nd,<- vS hnd,h.lin,show (4:Nat)=2+2 from rfl,zA,jm hT]
theorem tV {g:List Int->List Int} (h:∀p∈T,Y9 n m (g p.1)) (h1:M5 T (fun _=>1)=1):P9 ((G5 n).map fun i=>P9 (T.map fun p=>Q0 (g p.1) i*p.2))=1:=by
 have e:(fun i=>P9 (T.map fun p=>Q0 (g p.1) i*p.2))=fun i=>M5 T (fun u=>Q0 (g u) i):=by
  funext i
  rw[lF]
 rw[e,nq,<- h1]
 refine pM fun p hp=>?_
 have hu:=h p hp
 have:=mU hu.pos n
 have z:=vG hu.pos
 rw[hu.len] at z
 rw[z] at this
 rw[<- this]
 congr 1
 refine P1 fun i _=>?_
 rw[yb]
noncomputable def uo (rs:List (List Int)) (u v:List Int):Nat->List (Int × List Int)
 | 0=>[]
 | i+1=>uo rs u v i++(if 0<u.getD i 0 then [(u.getD i 0,N7 v (rs.getD i []))] else [])
theorem yo (rs:List (List Int)) (u v:List Int):∀i:Nat,el rs u v i=(uo rs u v i).map fun b=>(b.1,b.2++u)
 | 0=>rfl
 | i+1=>by
  unfold el uo
  rw[j7,yo rs u v i]
  split <;> rfl
theorem zv {rs:List (List Int)}{u v:List Int}:∀{i:Nat},∀b∈uo rs u v i,∃j,j<i/\b=(u.getD j 0,N7 v (rs.getD j []))/\0<u.getD j 0
 | 0,b,hb=>by simp[uo] at hb
 | i+1,b,hb=>by
  unfold uo at hb
  rcases List.mem_append.mp hb with hb|hb
  ·obtain ⟨j,hj,r⟩:=zv b hb
   exact ⟨j,by lia,r⟩
  ·split at hb
   ·rename_i hp
    exact ⟨i,by lia,List.mem_singleton.mp hb,hp⟩
   ·simp at hb
noncomputable def fb (f:List Int->List Int) (D:v5):v5:=D.map fun p=>(f p.1,p.2)
theorem sO {f:List Int->List Int} (hf:∀a b,f a=f b->a=b) (k:List Int) (x:Rat):∀D:v5,U9 (fb f D) (f k) x=fb f (U9 D k x)
 | []=>rfl
 | p::D=>by
  show U9 ((f p.1,p.2)::fb f D) (f k) x=_
  unfold U9
  by_cases e:p.1=k
  ·rw[if_pos e,if_pos (by rw[e])];rfl
  ·rw[if_neg e,if_neg (fun z=>e (hf _ _ z)),sO hf k x D];rfl
theorem nc {f:List Int->List Int} (hf:∀a b,f a=f b->a=b) (x:Rat) (s:Int):∀(bs:List (Int × List Int)) (D:v5),K9 x s (bs.map fun b=>(b.1,f b.2)) (fb f D)=fb f (K9 x s bs D)
 | [],_=>rfl
 | b::bs,D=>by
  show K9 x s (bs.map fun b=>(b.1,f b.2)) (U9 (fb f D) (f b.2) (x*cut b.1 s))=fb f (K9 x s bs (U9 D b.2 (x*cut b.1 s)))
  rw[sO hf,nc hf x s bs]
noncomputable def ie (n:Nat) (rs:List (List Int)) (u v:List Int):v5:=K9 1 u.sum (uo rs u v n) []
theorem pj (hR:jW n 5 rs) (n4:n<=4) (hu:Y9 n 20 u) (hv:Y9 n 20 v):∀i:Nat,i<=n->(∀p∈K9 1 u.sum (uo rs u v i) [],Y9 n 25 p.1)/\bI (K9 1 u.sum (uo rs u v i) [])/\aF (1*LL) (0+1*(uo rs u v i).length) (K9 1 u.sum (uo rs u v i) [])/\(K9 1 u.sum (uo rs u v i) []).length<=0+(uo rs u v i).length:=fun i hi =>
 hH (W:=fun k=>Y9 n 25 k) (E:=1) (Vq.one 1) hu.pos (fq hu n4 (by decide)) (uo rs u v i) (D:=[]) (B:=0) (fun b hb=>by
  obtain ⟨j,hj,e,hp⟩:=zv b hb
  rw[e]
  exact ⟨⟨hp,ag hu j⟩,hv.add (hR.at (by lia))⟩) (fun p hp=>by simp at hp) (by unfold bI;simp) (fun p hp=>by simp at hp)
theorem yp (hR:jW n 5 rs) (n4:n<=4) (hu:Y9 n 20 u) (hv:Y9 n 20 v):tw n rs 1 u v=fb (u++·) (ie n rs u v):=by
 obtain ⟨e1,e2⟩:=Z8 (v:=v) hu.len
 have ec:ao n rs 1 [(u++v,1)]=fb (·++u) (ie n rs u v):=by
  show K9 1 ((u++v).take n).sum (el rs ((u++v).take n) ((u++v).drop n) n) []=_
  rw[e1,e2,yo]
  exact nc (f:=(·++u)) (fun a b h=>List.append_cancel_right h) 1 u.sum (uo rs u v n) []
 show mM n (ao n rs 1 [(u++v,1)])=_
 rw[ec]
 unfold mM fb
 rw[B6]
 refine P1 fun p hp=>?_
 have hl:=((pj hR n4 hu hv n (d9 _)).1 p hp).len
 obtain ⟨t1,t2⟩:=Z8 (v:=u) hl
 show ((p.1++u).drop n++(p.1++u).take n,p.2)=_
 rw[t1,t2]
theorem ki (a b:List Int):∀u:List Int,HT.E7 (u++a) (u++b)=HT.E7 a b
 | []=>rfl
 | x::u=>by
  show HT.E7 (x::(u++a)) (x::(u++b))=_
  rw[HT.P3,if_pos rfl,ki a b u]
theorem Bk (u:List Int) (h:jA T):jA (fb (u++·) T):=by
 unfold jA fb at *
 rw[B6,L6]
 rw[L6] at h
 exact h.imp fun {p q} z=>by
  show HT.E7 (u++q.1) (u++p.1)=false
  rw[ki];exact z
end M8
namespace G
open PySem PySem.Spec PyProof.Rows L2 Mt Md Mq M8
noncomputable def tD (n:Nat) (p:List Int × Rat):w6:=.tuple [DI (p.1.take n),DI (p.1.drop n),DI (fr p.2)]
variable {n:Nat}{H:Hp}{T:v5}
theorem yI {as:List Addr} (h:R3 n H T as):∃N,∀st,N<st->Q6 st H (T.map (tD n)) (as.map V.ref):=by
 induction h with
 | nil=>exact ⟨0,fun _ _=>rfl⟩
 | @cons p a T as r t ih =>
  obtain ⟨N,hN⟩:=ih
  obtain ⟨c,d,q,h1,h2,h3,h4⟩:=r
  have lt:∀{x y z u v:Nat},x+y+z+u+v<v+x+y+z+u+1:=fun {x y z u v}=>by lia
  have e5:∀{st:Nat} (x:Nat),x<=N+a+c+d+q->N+a+c+d+q<st->x≠st:=fun {st} x h1 h2=>q9 (F3 h1 h2)
  have m1:a<=N+a+c+d+q:=f9 (K5 a N) (f9 (u9 _ c) (f9 (u9 _ d) (u9 _ q)))
  have m2:c<=N+a+c+d+q:=f9 (K5 c (N+a)) (f9 (u9 _ d) (u9 _ q))
  have m3:d<=N+a+c+d+q:=f9 (K5 d (N+a+c)) (u9 _ q)
  have m4:q<=N+a+c+d+q:=K5 q _
  have m5:N<=N+a+c+d+q:=f9 (u9 N a) (f9 (u9 _ c) (f9 (u9 _ d) (u9 _ q)))
  refine ⟨N+a+c+d+q,fun st hst=>Q6.cons (Dt.tup (e5 a m1 hst) h1 (Q6.cons (Dt.mkI (e5 c m2 hst) h2) (Q6.cons (Dt.mkI (e5 d m3 hst) h3) (Q6.cons (Dt.mkI (e5 q m4 hst) h4) (Q6.nil _ _))))) (hN st (F3 m5 hst))⟩
theorem Ba {D1 D2:Addr}{as1 as2:List Addr} (h1:H D1=some (.lst (as1.map V.ref))) (b1:R3 n H T as1) (h2:H D2=some (.lst (as2.map V.ref))) (b2:R3 n H T as2):∃st,Dt st H (.list (T.map (tD n))) (.ref D1)/\Dt st H (.list (T.map (tD n))) (.ref D2):=by
 obtain ⟨N1,d1⟩:=yI b1
 obtain ⟨N2,d2⟩:=yI b2
 have a1:N1<N1+N2+D1+D2+1:=Y1 (f9 (u9 _ _) (f9 (u9 _ _) (u9 _ _)))
 have a2:N2<N1+N2+D1+D2+1:=Y1 (f9 (K5 _ _) (f9 (u9 _ _) (u9 _ _)))
 have a3:D1≠N1+N2+D1+D2+1:=q9 (Y1 (f9 (K5 _ _) (u9 _ _)))
 have a4:D2≠N1+N2+D1+D2+1:=q9 (Y1 (K5 _ _))
 exact ⟨_,Dt.lst a3 h1 (d1 _ a1),Dt.lst a4 h2 (d2 _ a2)⟩
theorem DK (n:Nat) (p:List Int × Rat):J7 (tD n p)=true/\R9 (tD n p)<=3:=by
 have h1:=zD (p.1.take n)
 have h2:=zD (p.1.drop n)
 have h3:=zD (fr p.2)
 refine ⟨?_,?_⟩
 ·show J7 (.tuple [DI (p.1.take n),DI (p.1.drop n),DI (fr p.2)])=true
  unfold J7 E6 E6 E6 E6
  rw[h1.1,h2.1,h3.1];rfl
 ·show R9 (.tuple [DI (p.1.take n),DI (p.1.drop n),DI (fr p.2)])<=3
  unfold R9 F4 F4 F4 F4
  have:=h1.2
  have:=h2.2
  have:=h3.2
  lia
theorem uJ (n:Nat):∀T:v5,E6 (T.map (tD n))=true/\F4 (T.map (tD n))<=3
 | []=>⟨rfl,by show F4 []<=3;unfold F4;lia⟩
 | p::T=>by
  have h1:=DK n p
  have h2:=uJ n T
  refine ⟨?_,?_⟩
  ·show E6 (tD n p::T.map (tD n))=true
   unfold E6
   rw[h1.1,h2.1];rfl
  ·show F4 (tD n p::T.map (tD n))<=3
   unfold F4
   have:=h1.2
   have:=h2.2
   lia
theorem mV (n:Nat) (T:v5):S1 (.list (T.map (tD n)))=true:=by
 unfold S1
 rw[u7]
 refine ⟨?_,decide_eq_true ?_⟩
 ·show J7 (.list (T.map (tD n)))=true
  unfold J7
  exact (uJ n T).1
 ·have:=(uJ n T).2
  show R9 (.list (T.map (tD n)))<=64
  unfold R9
  lia
theorem DW (n:Nat) (p:List Int × Rat):aq (tD n p) (tD n p)=true:=by
 show aq (.tuple [DI (p.1.take n),DI (p.1.drop n),DI (fr p.2)]) (.tuple [DI (p.1.take n),DI (p.1.drop n),DI (fr p.2)])=true
 unfold aq E1 E1 E1 E1
 rw[BJ,BJ,BJ,decide_eq_true rfl,decide_eq_true rfl,decide_eq_true rfl];rfl
theorem zO (n:Nat):∀T:v5,E1 (T.map (tD n)) (T.map (tD n))=true
 | []=>by show E1 [] []=true;unfold E1;rfl
 | p::T=>by
  show E1 (tD n p::T.map (tD n)) (tD n p::T.map (tD n))=true
  unfold E1
  rw[DW,zO n T];rfl
theorem GG {D1 D2:Addr}{as1 as2:List Addr}{Q:VK} (h1:H D1=some (.lst (as1.map V.ref))) (b1:R3 n H T as1) (h2:H D2=some (.lst (as2.map V.ref))) (b2:R3 n H T as2) (q:Q (.bl true) H):FY (.ref D1) (.ref D2) H Q:=by
 obtain ⟨st,d1,d2⟩:=Ba h1 b1 h2 b2
 refine ⟨st,_,_,d1,d2,mV n T,mV n T,?_⟩
 have e:aq (.list (T.map (tD n))) (.list (T.map (tD n)))=true:=by
  unfold aq
  exact zO n T
 rw[e];exact q
end G
namespace L2
open PySem PySem.Spec PyProof.Rows
noncomputable def hT (ns:List Int):Int:=EV (W7 (ns.map hashInt))
section
variable {prog:f6}{w:j6}
variable (prog w) in
noncomputable abbrev TK (h:Heap) (ns:List Int) (a:Addr):Prop:=IsTupleKey (R6 prog w) h (ns.map bh) a
variable (prog w) in
noncomputable def EsT (h:Heap) (B:List Int->Addr->Prop):List (List Int)->List (Int × b8)->Prop
 | [],es=>es=[]
 | k::ks,es=>∃a r,es=(hT k,.ref a)::r/\(TK prog w h k a/\B k a)/\EsT h B ks r
section
variable {h h':Heap}{B:List Int->Addr->Prop}
end
variable (prog w) in
structure SetT (h:Heap) (B:List Int->Addr->Prop) (S:Addr) (ks:List (List Int)) (t:SetTable):Prop where
 ex:∃o es ep,h.get? S=some o/\o.ExactSet/\o.data=.set es ep t/\EsT prog w h B ks es.toList
 fits:t.fits ks.length=true
 plain:t.plain=true
section
variable {A:r6}{E:b8->b9->Prop}{s:b9}
end
end
section
variable {prog:f6}{w:j6}{A:r6}{R:mj->b9->Prop}{I:Addr}{fp wr:List Addr}{G:Array CK->Array CK->Prop}{n:Nat}{P:Nat->b8->Prop}{St:Nat->b9->Prop}
end
section
variable {prog:f6}{w:j6}{A:r6}{E:b8->b9->Prop}{s:b9}
noncomputable abbrev byTx (w:j6):Bool:=w.params.followText "set-order"
noncomputable def Dc (t:SetTable):Nat->Nat
 | 0=>0
 | i+1=>t.place.getD i 0+1
noncomputable def sl (w:j6) (t:SetTable) (i:Nat):Nat:=if byTx w=true then 0 else Dc t i
end
section
variable {prog:f6}{w:j6}{A:r6}{E:b8->b9->Prop}{s:b9}
end
section
variable {prog:f6}{w:j6}{A:r6}{E:b8->b9->Prop}{s:b9}
end
end L2
namespace L2
open PySem PySem.Spec PyProof.Rows HT
section
variable {prog:f6}{w:j6}{A:r6}{E:b8->b9->Prop}{s:b9}
theorem Bq {c:Bool}{x y:Int}{t u:Tok}{Q:Bool->b9->Prop} (h:Q (decide (x<y)) s):i5 (n0 prog w) A (oneLt' c (.int x t) (.int y u)) Q E s:=by
 cases c with
 | true=>exact oneLt_int h
 | false=>exact Fd _ _ (wpAny_lt_int h)
theorem zB {b fin:Bool}{Q:Bool->b9->Prop}:∀{us vs:List b8}{ns ms:List Int} (i:Nat),T8 us ns->T8 vs ms->Q (if (ns.take ms.length=ms.take ns.length) then fin else E7 ns ms) s->W.KatLex prog w A b fin Q (us.zip vs) i s
 | [],vs,_,ms,i,.nil,_,h=>Fe (by simpa using h)
 | _::_,[],_,_,i,.cons _ _ _,.nil,h=>Fe (by simpa using h)
 | _::us,_::vs,_,_,i,.cons n t r,.cons m u q,h=>by
  refine kr (bX n t m u prog w _ _ ?_)
  by_cases e:n=m
  ·subst e
   rw[beq_self_eq_true]
   refine Fc (zB (i+1) r q ?_)
   simpa [P3] using h
  ·rw[show (n == m)=false from by simpa using e]
   refine Ib (Bq ?_)
   simpa [P3,e] using h
theorem vT:∀(ns ms:List Int),(if ns.take ms.length=ms.take ns.length then decide (ns.length<ms.length) else E7 ns ms)=E7 ns ms
 | [],[]=>rfl
 | [],_::_=>rfl
 | _::_,[]=>rfl
 | n::ns,m::ms=>by
  have ih:=vT ns ms
  rw[P3]
  by_cases e:n=m
  ·subst e
   simp only[p4,List.take_succ_cons,List.cons.injEq,true_and,Nat.add_lt_add_iff_right,if_true]
   exact ih
  ·simp[e]
theorem CO {x y:Addr}{b:Bool}{ns ms:List Int}{Q:Bool->b9->Prop} (h1:K0 s.heap (.ref x) ns) (h2:K0 s.heap (.ref y) ms) (hq:Q (E7 ns ms) s):i5 (n0 prog w) A (keyLt' (tuples' b) (.ref x) (.ref y)) Q E s:=by
 obtain ⟨a,us,e1,⟨ox,hx,_,n,dx⟩,i1⟩:=h1
 obtain ⟨c,vs,e2,⟨oy,hy,_,k,dy⟩,i2⟩:=h2
 cases e1
 cases e2
 refine W.kat_lt hx dx hy dy (zB 0 i1 i2 ?_)
 rw[j0,j0,bT i1,bT i2,vT]
 exact hq
end
noncomputable abbrev Pl:=Addr × List Int
noncomputable def EI (L:List Pl):b8->Int
 | .ref a=>(L.lookup a).elim 0 fun k=>(fN (L.map (·.2)) k:Int)
 | _=>0
theorem nj:∀{L:List Pl}{t:Pl},(∀u∈L,∀v∈L,u.1=v.1->u.2=v.2)->t∈L->L.lookup t.1=some t.2
 | u::L,t,hf,ht=>by
  rw[show u::L=(u.1,u.2)::L from rfl,F6]
  by_cases e:t.1=u.1
  ·rw[show (t.1 == u.1)=true by simp[e]]
   exact congrArg some (hf u f7 t ht e.symm)
  ·rw[show (t.1 == u.1)=false by simpa using e]
   rcases List.mem_cons.mp ht with rfl|ht'
   ·exact absurd rfl e
   ·exact nj (fun u hu v hv=>hf u (i3 _ hu) v (i3 _ hv)) ht'
theorem rY {h:Heap}:∀{L:List Pl},(∀t∈L,K0 h (.ref t.1) t.2/\t.2≠[])->W.KatTups h (L.map fun t=>j3 t.1) (L.map fun t=>fg h t.1)
 | [],_=>Ah
 | t::L,hh=>by
  obtain ⟨⟨a,us,e,⟨o,h1,h2,n,h3⟩,ia⟩,ne⟩:=hh t f7
  cases e
  refine xZ h1 h2 h3 ?_ (rY fun u hu=>hh u (i3 _ hu))
  have hl:=bT ia
  match us,hl with
  | [],z=>exact absurd (List.length_eq_zero_iff.mp z.symm) ne
  | u::us,_ =>
   show (u::us).toArray[0]?=some (fg h t.1)
   unfold fg
   rw[h1]
   dsimp only
   rw[h3];rfl
section
variable {X:Cx}{H:Hp}
theorem TL.mk {H:Hp}:∀{L:List Pl},(∀t∈L,H t.1=some (.tup (t.2.map V.int)))->TL H (L.map (·.2)) (L.map fun t=>V.ref t.1)
 | [],_=>trivial
 | t::L,h=>⟨⟨t.1,rfl,h t f7⟩,TL.mk fun u hu=>h u (i3 _ hu)⟩
theorem vm:∀L:List Pl,J2 (L.map fun t=>V.ref t.1) (L.map fun t=>j3 t.1)
 | []=>.nil
 | _::L=>.cons rfl (vm L)
end
section
variable {X:Cx}{pins:List (Addr × Obj)}{σ:St}{H:Hp}{s:b9}
theorem AW {v:b8}{L:List Pl}{Q:VK} (I:A9 X pins σ H s) (h64:L.length<64) (hne:2<=L.length->∀t∈L,t.2≠[]) (y9:∀t∈L,H t.1=some (.tup (t.2.map V.int)))
  (hcol:∀R:List b8->b9->Prop,(∀h' tk,s.heap.objs.size<h'.objs.size->(∀b o,s.heap.get? b=some o->h'.get? b=some o)->R (L.map fun t=>j3 t.1) { s with heap:=h',toks:=tk })->i5 (n0 X.prog X.w) X.A.in1 (Ay v) R X.xe s)
  (q:∀(D:Addr) (ys:List V) (ms:List (List Int)) (H':Hp),ms.Perm (L.map (·.2))->ms.Pairwise (fun a b=>HT.E7 b a=false)->j4 H H'->H' D=some (.lst ys)->TL H' ms ys->Q (.ref D) H'):
  i5 (n0 X.prog X.w) X.A (call (.builtin "sorted") [v]) (EP X pins σ Q) X.xe s:=by
 refine qF kind_sorted plain_sorted entry_sorted (args_sorted1 _) ?_
 unfold Z3.«sorted»
 refine b5 (m:=checkCount "sorted" 1 1 _) (d5 ?_)
 refine b5 (hcol _ fun h' tk hsz k1=>?_)
 have fn:∀u∈L,∀v∈L,u.1=v.1->u.2=v.2:=fun u hu v hv e=>by
  have h1:=y9 u hu
  have h2:=y9 v hv
  rw[e,h2] at h1
  injection h1 with h1
  injection h1 with h1
  exact ((Aj fun x y e=>by injection e).mp h1).symm
 have rvE:∀t∈L,EI L (.ref t.1)=(fN (L.map (·.2)) t.2:Int):=fun t ht=>by
  show (L.lookup t.1).elim 0 _=_
  rw[nj fn ht];rfl
 have mem:∀t∈L,t.2∈L.map (·.2):=fun t ht=>List.mem_map.mpr ⟨t,ht,rfl⟩
 refine b5 (lR ?_ (by rw[b7,K3];lia))
 have hB:(h'.push (O8 "list" (L.map fun t=>j3 t.1).toArray 0)).get? h'.objs.size=some (O8 "list" (L.map fun t=>j3 t.1).toArray 0):=n5 _ rfl
 have k2:∀b o,s.heap.get? b=some o->(h'.push (O8 "list" (L.map fun t=>j3 t.1).toArray 0)).get? b=some o:=fun b o e=>d6 _ (k1 b o e)
 have lt1:∀b o,s.heap.get? b=some o->b≠h'.objs.size:=fun b o e=>q9 (i4 (k1 b o e))
 show i5 _ _ _ _ _ { s with heap:=h'.push (O8 "list" (L.map fun t=>j3 t.1).toArray 0),toks:=tk }
 refine b5 (M7 (y6 slot_list_sort ⟨_,hB,rfl⟩ entry_list_sort ?body (args_list_sort _)))
 refine So.tU (rv:=EI L) (s:={ s with heap:=h'.push (O8 "list" (L.map fun t=>j3 t.1).toArray 0),toks:=tk }) (vs:=L.map fun t=>j3 t.1) hB (by rw[b7];lia) (fun h2 h1 kp=>?_) (fun h5 vs' c' hpm hup kp hB5=>?_)
 ·rw[b7] at h2
  have at1:∀t∈L,K0 h1 (.ref t.1) t.2/\t.2≠[]:=fun t ht=>⟨(jr I.hok (y9 t ht)).keep fun b o _ e=>kp b o (lt1 b o e) (k2 b o e),hne (by lia) t ht⟩
  refine W.kat_kind (T:=.type "int") (rY at1) (by rw[b7];lia) (fun f hf=>?_) (by decide) ⟨rfl,fun x y hx hy Q hQ=>?_⟩
  ·obtain ⟨t,ht,rfl⟩:=List.mem_map.mp hf
   obtain ⟨⟨a,us,e,⟨o,h1',h2',n,h3'⟩,ia⟩,ne⟩:=at1 t ht
   cases e
   have hl:=bT ia
   match us,hl with
   | [],z=>exact absurd (List.length_eq_zero_iff.mp z.symm) ne
   | u::us,_ =>
    obtain ⟨t',e⟩:=fw (j:=0) ia rfl
    have:fg h1 t.1=u:=by
     unfold fg
     rw[h1']
     dsimp only
     rw[h3'];rfl
    rw[this,e]
    exact W.Looks.of_pure rfl
  ·obtain ⟨x1',x2'⟩:=x
   obtain ⟨y1',y2'⟩:=y
   dsimp only at hx hy hQ ⊢
   obtain ⟨tx,hax,rfl⟩:=List.mem_map.mp hx
   obtain ⟨ty,hay,rfl⟩:=List.mem_map.mp hy
   have eR:decide (EI L (.ref tx.1)<EI L (.ref ty.1))=HT.E7 tx.2 ty.2:=by
    rw[<- hG (mem tx hax) (mem ty hay)]
    simp only[rvE tx hax,rvE ty hay]
   replace hQ:Q (decide (EI L (.ref tx.1)<EI L (.ref ty.1))) _:=hQ
   rw[eR] at hQ
   exact CO (at1 tx hax).1 (at1 ty hay).1 hQ
 ·refine ⟨_,rfl,d5 ⟨_,rfl,?_⟩⟩
  obtain ⟨M,hM,rfl⟩:=dQ hpm
  have k5:∀b o,s.heap.get? b=some o->h5.get? b=some o:=fun b o e=>kp b o (lt1 b o e) (k2 b o e)
  have J:=I.lays (N:=fun b=>if b=h'.objs.size then some (.lst (M.map fun t=>V.ref t.1)) else none) (h':=h5) (t':=tk) k5 (fun b o hb e=>?_)
  ·have sm:j4 H (fun b=>if b<s.heap.objs.size then H b else if b=h'.objs.size then some (.lst (M.map fun t=>V.ref t.1)) else none):=fun b o e=>by
    show (if b<s.heap.objs.size then H b else _)=some o
    rw[if_pos (I.hok.lt e)];exact e
   refine ⟨.ref h'.objs.size,_,J,rfl,q _ _ (M.map (·.2)) _ (hM.map _) ?_ sm ?_ (TL.mk fun t ht=>sm _ _ (y9 t (hM.mem_iff.mp ht)))⟩
   ·rw[L6]
    rw[L6] at hup
    refine Q4 ?_ hup
    intro a b ha hb hab
    have ha':=hM.mem_iff.mp ha
    have hb':=hM.mem_iff.mp hb
    rw[rvE a ha',rvE b hb'] at hab
    rw[<- hG (mem b hb') (mem a ha')]
    exact decide_eq_false (by lia)
   ·show (if h'.objs.size<s.heap.objs.size then H h'.objs.size else (if h'.objs.size=h'.objs.size then _ else _))=_
    rw[if_neg (Nat.not_lt_of_lt hsz),if_pos rfl]
  ·by_cases hbB:b=h'.objs.size
   ·rw[if_pos hbB] at e
    cases e
    refine ⟨by rw[b7,hM.length_eq,K3];lia,M.map (fun t=>j3 t.1),c',vm M,by rw[hbB,hB5]⟩
   ·rw[if_neg hbB] at e
    cases e
noncomputable def Dw:List V->Hp->VK->Prop:=fun xs H Q=>∃(d:Addr) (kvs:List (List V3 × V)),xs=[.ref d]/\H d=some (.dT kvs)/\kvs.length<64/\(∀kx∈kvs,∃ns:List Int,kx.1=ns.map bh/\ns≠[]) /\
 ∀(D:Addr) (ys:List V) (ms:List (List Int)) (H':Hp),ms.Perm (kvs.map fun t=>kz t.1)->ms.Pairwise (fun a b=>HT.E7 b a=false)->j4 H H'->H' D=some (.lst ys)->TL H' ms ys->Q (.ref D) H'
theorem uT (hc:X.calm=true):Z0 X (.builtin "sorted") Dw:=by
 intro pins s σ H xs us Q I rr h
 obtain ⟨d,kvs,rfl,hd,h64,hk,q⟩:=h
 obtain ⟨u,rfl,rx⟩:=ee rr
 cases rx
 obtain ⟨z0,hsys,xs,r,o,es,ep,ho,hex,hdat,hes,nd0⟩:=(show J8 X.prog X.w H s.heap d (.dT kvs) from I.hok d _ hd)
 have len:kvs.length=xs.length:=G3 r
 have eL:(xs.map fun x=>((x.2.1,kz x.1):Pl)).map (·.2)=kvs.map fun t=>kz t.1:=by
  rw[B6]
  clear hes hk h64 len hd q z0 nd0
  induction r with
  | nil=>rfl
  | cons e _ ih=>rw[j8,j8,<- ih,e.1];rfl
 have at_:∀t∈xs.map (fun x=>((x.2.1,kz x.1):Pl)),H t.1=some (.tup (t.2.map V.int))/\t.2≠[]:=by
  clear hes h64 len hd q eL z0 nd0
  induction r with
  | nil=>exact fun _ z=>nomatch z
  | @cons p x l m e _ ih =>
   intro t ht
   rw[j8,y3] at ht
   rcases ht with rfl|ht
   ·obtain ⟨ns,e1,e2⟩:=hk p (.head _)
    have e3:kz x.1=ns:=by rw[<- e.1,e1,vU]
    refine ⟨?_,by show kz x.1≠[];rw[e3];exact e2⟩
    show H x.2.1=some (.tup ((kz x.1).map V.int))
    rw[e3,e.2.1,e1,B6];rfl
   ·exact ih (fun kx hx=>hk kx (.tail _ hx)) t ht
 refine AW I (by rw[b7];lia) (fun _ t ht=>(at_ t ht).2) (fun t ht=>(at_ t ht).1) (fun R hR=>?_) (fun D ys ms H' h1 h2 h3 h4 h5=>q D ys ms H' (by rw[<- eL];exact h1) h2 h3 h4 h5)
 refine fP (A:=X.A.in1) (I.ok.hd hc) hsys ho hex.1 hdat ?_ fun h' tk hz k=>?_
 ·rw[<- A8,hes,b7,K3];lia
 ·have e:es.toList.map fK=(xs.map fun x=>((x.2.1,kz x.1):Pl)).map fun t=>j3 t.1:=by
   rw[hes,B6,B6];rfl
  rw[e]
  exact hR h' tk hz k
end
end L2
namespace G
open PySem PySem.Spec PyProof.Rows L2 Mt Md Mq M8
theorem yK {H:Hp}{k:List Int}:∀{T:v5}{kvs:List (List V3 × V)},QE H T kvs->k∈T.map (·.1)->∃v,iT kvs (Md.kI k)=some v/\eB H (Y7 T k) v
 | [],[],_,h=>by cases h
 | p::T,kv::kvs,⟨a,b,c⟩,h=>by
  obtain ⟨kk,x⟩:=kv
  have a:kk=Md.kI p.1:=a
  subst a
  unfold Y7
  by_cases e:p.1=k
  ·rw[if_pos e,eE (by rw[e])]
   exact ⟨x,rfl,b⟩
  ·rw[if_neg e,eF (fun z=>e (Md.fe z))]
   refine yK c ?_
   rcases List.mem_cons.mp h with z|z
   ·exact absurd z.symm e
   ·exact z
 | [],_::_,h',_=>h'.elim
 | _::_,[],h',_=>h'.elim
theorem yJ {H:Hp}:∀{T:v5}{kvs:List (List V3 × V)},QE H T kvs->(kvs.map fun t=>kz t.1)=T.map (·.1)
 | [],[],_=>rfl
 | p::T,kv::kvs,⟨a,b,c⟩=>by
  rw[j8,j8,yJ c]
  have a:kv.1=Md.kI p.1:=a
  rw[a]
  congr 1
  exact vU _
 | [],_::_,h'=>h'.elim
 | _::_,[],h'=>h'.elim
noncomputable def cU (T:v5) (ms:List (List Int)):v5:=ms.map fun k=>(k,Y7 T k)
theorem sH {T:v5}{ms:List (List Int)} (hn:bI T) (h:ms.Perm (T.map (·.1))):(cU T ms).Perm T:=by
 have e:cU T (T.map (·.1))=T:=by
  unfold cU
  rw[B6]
  conv=>rhs;rw[<- dF T]
  refine P1 fun p hp=>?_
  show (p.1,Y7 T p.1)=p
  rw[((ij hn).mp hp).2]
 have:=h.map (fun k=>(k,Y7 T k))
 rw[show (T.map (·.1)).map (fun k=>(k,Y7 T k))=T from e] at this
 exact this
theorem uW {T:v5}{ms:List (List Int)} (h:ms.Pairwise (fun a b=>HT.E7 b a=false)):jA (cU T ms):=by
 unfold jA cU
 rw[B6]
 rw[show ms.map ((fun x:List Int × Rat=>x.1) ∘ fun k=>(k,Y7 T k))=ms from (P1 (g:=id) fun _ _=>rfl).trans (dF ms)]
 exact h
theorem uI (rs:List (List Int)) (u v:List Int):∀i:Nat,(uo rs u v i).length<=i
 | 0=>d9 _
 | i+1=>by
  unfold uo
  rw[n8]
  have:=uI rs u v i
  split
  ·rw[wM];lia
  ·rw[M4];lia
section
variable {P:f6}{w:j6}{K:m6}{mg:Str->Option b8}{base:Heap}{f:Addr}{fd:A7}{ec:Nat->Addr}{Bs:Addr}
noncomputable def mR:Sp:=fun vs H Q _=>∃(st a b:Addr) (v:V) (n:Nat) (us ws:List Int) (rs:List (List Int)),vs=[.ref a,.ref b,v]/\a≠st/\b≠st/\H a=some (.tup (us.map V.int))/\H b=some (.tup (ws.map V.int))/\Dt st H (DR rs) v/\Mt.Y9 n 20 us/\Mt.Y9 n 20 ws/\Mt.jW n 5 rs/\1<=n/\n<=4/\∀H',j4 H H'->Q (.bl true) H'
noncomputable abbrev Dm:Stmt:=ef 52
theorem vA:A2 ["_law_one","_law_other","_law_rule_here","_law_found","_law_kind","_law_there"] ["_law_one","_law_other","_law_rule_here"] (u0 Dm):=⟨rfl,rfl,rfl,by decide +kernel,rfl,by decide +kernel,by decide +kernel⟩
theorem Gp (F:bC K "_law_one_right" "_law_one_right" Dm f fd) (B:Bt mg) (B3:GX mg) (c1:U4 P w K mg base 7 "_law_plus" ["_law_one","_law_other"] aw) (c2:Z9 P w K mg base 7 "chance" ["urn","kind"] (iW ec)) (c3:Z9 P w K mg base 7 "two_stands" ["one","other","rule","draws"] (mP ec)):L3 P w K mg base dA 8 f fd ["_law_one","_law_other","_law_rule_here"] mR:=by
 refine F.ok vA (fun vs H Q E h=>?_) (fun cdv A outer s H vs Q E hr h=>?_)
 ·obtain ⟨st,a,b,v,n,us,ws,rs,rfl,_⟩:=h
  rfl
 refine match h with|⟨st,a,b,v,n,us,ws,rs,e_0,na,nb,ha,hb,hv,hU,hV,hR,n1,n4,q⟩=>?_
 subst e_0
 refine ⟨_,(@m9 _ _ _ _ _ (@G4 _ _ 3 _ _ _ _ vA.nd rfl (bZ rfl) yX (by rfl) (by first|exact .inl rfl|exact .inr rfl))
  (@m9 _ _ _ _ _ (bH E3 rfl (L0 rfl B.range (@b6 _ _ _ _ _ (A0 J6 rfl B.len J9 (@b6 _ _ _ _ _ (pv 0) d8 (by rfl))) d8 (by rfl))) (O0 (i:=4) vA.nd rfl (t5 rfl))
  (@q5 _ _ _ (T5 (@P7 _ _ _ _ _ _ _ _ rJ (@G9 _ _ _ _ _ _ _ L5 (pv 0) (pv 4) (fun _ _=>rfl)) j9 (N4 _)) (@m9 _ _ _ _ _ (@G4 _ _ 5 _ _ _ _ vA.nd rfl (t5 rfl) (J4 F8 rfl B.tuple N0 (@b6 _ _ _ _ _ (F5 (N:=["_law_many","_law_more"]) (ix:=[none,none]) (ifs:=[]) (tc:=M0) rfl (yT rfl B.zip (@b6 _ _ _ _ _ (pv 1) (@b6 _ _ _ _ _ (@G9 _ _ _ _ _ _ _ L5 (pv 2) (pv 4) (fun _ _=>rfl)) d8 (by rfl)) (by rfl)))
   (fun s H ex=>jS (K:=K) (n:=2) rfl rfl (v9 (Q5 (i:=0) (by decide +kernel) rfl (t5 rfl) (.inr rfl)) (v9 (Q5 (i:=1) (by decide +kernel) rfl (t5 rfl) (.inr rfl)) R5))) (fun s H ex=>D8) (fun s H ex=>(@D9 _ _ _ _ _ _ _ _ aR (pv 0) (pv 1))) rfl (by decide +kernel) (by rfl) (by rfl) (fun _=>rfl)) d8 (by rfl))) (by rfl) (by first|exact .inl rfl|exact .inr rfl))
  (@q5 _ _ _ (Bb (zH hr) (pv 3) (pv 5) (w5 c1 hr rfl (@b6 _ _ _ _ _ (yY (zH hr) (pv 3) (pv 5) (@O5 _ _ _ _ _ (@b6 _ _ _ _ _ j9 (@b6 _ _ _ _ _ j9 d8 (by rfl)) (by rfl))) ⟨rfl,rfl,rfl,rfl⟩) (@b6 _ _ _ _ _ (O6 c2 hr rfl eU (@b6 _ _ _ _ _ (pv 0) (@b6 _ _ _ _ _ (pv 4) d8 (by rfl)) (by rfl))) d8 (by rfl)) (by rfl))) rfl))) J1)))
  (@q5 _ _ _ (B8 (cL (zd hr.units) (O6 c3 hr rfl eU (@b6 _ _ _ _ _ (pv 0) (@b6 _ _ _ _ _ (pv 1) (@b6 _ _ _ _ _ (pv 2) (@b6 _ _ _ _ _ j9 d8 (by rfl)) (by rfl)) (by rfl)) (by rfl))) (F5 (N:=["_law_there","_law_one","_law_found"]) (ix:=[none,some 0,some 3]) (ifs:=[]) (tc:=M0) rfl (V2 (A0 (uT rfl) rfl B3.sorted cN (@b6 _ _ _ _ _ (pv 3) d8 (by rfl))))
   (fun s H ex=>Q5 (i:=0) (by decide +kernel) rfl (t5 rfl) (.inr rfl)) (fun s H ex=>D8) (fun s H ex=>(@O5 _ _ _ _ _ (@b6 _ _ _ _ _ (pv 1) (@b6 _ _ _ _ _ (pv 0) (@b6 _ _ _ _ _ (Bh (zH hr) (pv 2) (pv 0) (fun _ _=>rfl)) d8 (by rfl)) (by rfl)) (by rfl)))) rfl (by decide +kernel) (by rfl) (by rfl) (fun _=>rfl)) (N4 _)))))),?_⟩
 intro lt hlt
 have g0:j4 H (v8 H lt (.dT [])):=j4.new hlt
 have hlt0:v8 H lt (.dT []) lt=some (.dT []):=i6
 have hv0:Dt lt (v8 H lt (.dT [])) (DR rs) v:=Aa hlt0 (hv.kp (g0.kp st))
 try dsimp -proj only
 generalize v8 H lt (.dT [])=H0 at g0 hlt0 hv0
 have ndt:∀(ps:List (List V3 × V)) xs,HO.dT ps≠.tup xs:=fun _ _ z=>by cases z
 refine ⟨_,rfl,a,_,rfl,.inr (.of (g0 _ _ ha)),(n:Int),by rw[b7,hU.len],by lia,by lia,?_⟩
 refine dn (lo:=0) (n:=n) (fun i σ H2=>Kp lt H0 H2/\(∃ks,H2 lt=some (.dT ks)/\QE H2 (K9 1 us.sum (uo rs us ws i) []) ks)/\i<=n/\∃o4 o5,σ=[some (.ref a),some (.ref b),some v,some (.ref lt),o4,o5])
  ⟨Kp.refl _ _,⟨[],hlt0,trivial⟩,j5 _,none,none,rfl⟩ (fun i σ H2 hi h=>?_) (fun σ H2 h=>?_)
 ·refine match h with|⟨k2,⟨ks2,hl2,hq2⟩,_,o4,o5,e_1⟩=>?_
  subst e_1
  have hin:i<n:=hi
  have t02:=cz hlt0 (ndt _) k2
  have ha2:=t02 _ _ (g0 _ _ ha)
  have hb2:=t02 _ _ (g0 _ _ hb)
  have hv2:Dt lt H2 (DR rs) v:=hv0.kp k2
  have hdj:(us.map V.int)[i]?=some (.int (us.getD i 0)):=by
   rw[m7,t8]
   have:i<us.length:=by rw[hU.len];exact hin
   rw[d0 this];rfl
  rw[Il]
  refine ⟨_,rfl,_,rfl,a,_,_,_,rfl,rfl,.of ha2,C6 hdj,_,_,rfl,rfl,_,rfl,?_⟩
  by_cases hpos:0<us.getD i 0
  ·rw[decide_eq_true hpos]
   refine bB ?_
   refine match zT hv2 (show i<rs.length by rw[hR.len];exact hin) with|⟨r,xs,rb,er,hr2,hxr,hrb⟩=>?_
   subst er
   obtain ⟨row,erow⟩:∃row,row=rs.getD i []:=⟨_,rfl⟩
   rw[<- erow] at hrb
   have hrow:zZ n 5 row:=by rw[erow];exact hR.at hin
   refine ⟨_,rfl,_,rfl,_,rfl,r,_,_,_,rfl,rfl,.of hr2,C6 hxr,b,rb,_,_,rfl,.of hb2,.of hrb,?_⟩
   have l1:ws.length=row.length:=by rw[hV.len,hrow.len]
   have l2:(N7 ws row).length=ws.length:=by unfold N7;rw[aa,<- l1];lia
   have l3:=hV.len
   refine wB (K:=K) (a:=b) (b:=rb) (xs:=ws.map V.int) (ys:=row.map V.int) (sz (by rw[b7];lia)) (by rw[b7,b7];exact l1)
    (fun i zs H3=>j4 H2 H3/\i<=n/\zs=((N7 ws row).take i).map V.int) ⟨j4.refl H2,j5 _,rfl⟩ (fun i zs H3 h=>?_) (fun i zs H3 _ h=>⟨.of (h.1 _ _ hb2),.of (h.1 _ _ hrb)⟩) ⟨rfl,rfl⟩ (fun i zs H3 x y p hx hy hp h=>?_) (fun zs H3 h=>?_)
   ·obtain ⟨_,hil,rfl⟩:=h
    rw[b7,m8,l2];lia
   ·obtain ⟨hS,hil,rfl⟩:=h
    have hi:i<ws.length:=by have:=(List.getElem?_eq_some_iff.mp hx).1;rwa [b7] at this
    have hi2:i<row.length:=by lia
    rw[m7,d0 hi] at hx
    rw[m7,d0 hi2] at hy
    cases hx
    cases hy
    refine ⟨_,rfl,_,rfl,_,_,rfl,rfl,hS.trans (j4.new hp),by lia,?_⟩
    have e:(N7 ws row)[i]?=some (ws[i]+row[i]):=by
     unfold N7;rw[fJ,d0 hi,d0 hi2]
    rw[t6,e,j7];rfl
   refine match h with|⟨hS,_,e_3⟩=>?_
   rw[b7,<- l2,u5] at e_3
   subst e_3
   intro p hp
   refine ⟨p,_,rfl,.inl ⟨.of i6,fun l hl=>?_⟩⟩
   have g5:j4 H2 (v8 (v8 H3 p (.lst ((N7 ws row).map V.int))) l (.tup ((N7 ws row).map V.int))):=(hS.trans (j4.new hp)).trans (j4.new hl)
   have hl5:v8 (v8 H3 p (.lst ((N7 ws row).map V.int))) l (.tup ((N7 ws row).map V.int)) l=some (.tup ((kI (N7 ws row)).map kV)):=by rw[bK];exact i6
   try dsimp -proj only
   generalize v8 (v8 H3 p (.lst ((N7 ws row).map V.int))) l (.tup ((N7 ws row).map V.int))=H5 at g5 hl5
   clear hS hp hl
   refine match pj hR n4 hU hV i (O3 hin) with|⟨pp1,pp2,pp3,pp4⟩=>?_
   have hlu:=uI rs us ws i
   have cv:Vq (1*LL) 1 (Q0 us i):=by rw[gP];exact pZ (S9 hpos) (ag hU i) hU.pos (fq hU n4 (by decide))
   have vvq:=pp3.val (k:=N7 ws row)
   have hN1:1*LL<=2 ^ 300:=by rw[gP];exact sQ
   have hN0:0<1*LL:=by rw[gP];exact lP
   have big:∀X:Nat,X<=2 ^ 10->1*LL*X<=2 ^ 310:=fun X hX=>by
    have:(2:Nat) ^ 310=2 ^ 300*2 ^ 10:=by rw[<- D5]
    rw[this];exact u4 hN1 hX
   have hN2:1*LL<=2 ^ 310:=f9 hN1 (u6 (by decide) (by decide))
   have d1:Bd 310 (Q0 us i):=cv.bd hN0 (big _ (by decide)) hN2
   have d2:Bd 310 (Y7 (K9 1 us.sum (uo rs us ws i) []) (N7 ws row)):=vvq.bd hN0 (big _ (by lia)) hN2
   refine ⟨_,rfl,lt,rfl,.inr ⟨_,.inl (g5 _ _ hl2)⟩,_,rfl,(by show 2<=i8;decide),fun p8 hp8=>?_⟩
   have g8:j4 H5 (v8 H5 p8 (.tup [.int 0,.int 1])):=j4.new hp8
   have hz8:eB (v8 H5 p8 (.tup [.int 0,.int 1])) 0 (.ref p8):=⟨p8,rfl,i6⟩
   try dsimp -proj only
   generalize v8 H5 p8 (.tup [.int 0,.int 1])=H8 at g8 hz8
   have g28:=g5.trans g8
   have hl8:=g28 _ _ hl2
   have hq8:QE H8 (K9 1 us.sum (uo rs us ws i) []) ks2:=hq2.mono fun a xs e=>g28 _ _ e
   refine match hq8.val (k:=N7 ws row) hz8 with|⟨r8,er8,hr8⟩=>?_
   refine ⟨_,qz.t hl8 (g8 _ _ hl5),?_⟩
   rw[er8]
   refine ⟨_,rfl,_,rfl,.inr ⟨lt,a,n,i,us,rfl,Dt.mkI (rQ (g28 _ _ ha2) hl8 (by intro z;cases z)) (g28 _ _ ha2),hU,n1,n4,hin,fun p7 H7 g7 hp7=>?_⟩⟩
   refine ⟨r8,p7,_,Q0 us i,310,310,rfl,g7 _ _ hr8,hp7,Rat.num_nonneg.mpr vvq.nn,Rat.num_nonneg.mpr cv.nn,d2,d1,by decide,fun p9 H9 g9 hp9=>?_⟩
   have g29:j4 H2 H9:=g28.trans (g7.trans g9)
   have hl9:=g29 _ _ hl2
   have hq9:QE H9 (K9 1 us.sum (uo rs us ws i) []) ks2:=hq2.mono fun a xs e=>g29 _ _ e
   refine ⟨_,rfl,_,rfl,lt,_,rfl,Ab.t hl9 (g9 _ _ (g7 _ _ (g8 _ _ hl5))) (by rw[hq9.len];exact de (by lia)),?_⟩
   have hq10:=hq9.put (k:=N7 ws row) (x:=Q0 us i) (v:=.ref p9) pp2 ⟨p9,rfl,hp9⟩
   refine ⟨(k2.trans (g29.kp lt)).trans Kp.at,⟨_,i6,?_⟩,hin,_,_,rfl⟩
   have eu:uo rs us ws (i+1)=uo rs us ws i++[(us.getD i 0,N7 ws row)]:=by
    show uo rs us ws i++_=_
    rw[if_pos hpos,erow]
   rw[eu,gq,Rat.one_mul]
   exact hq10.mono (cz hl9 (ndt _) Kp.at)
  ·rw[decide_eq_false hpos]
   refine ak ?_
   refine ⟨k2,⟨ks2,hl2,?_⟩,hin,_,_,rfl⟩
   have eu:uo rs us ws (i+1)=uo rs us ws i:=by
    show uo rs us ws i++_=_
    rw[if_neg hpos,W5]
   rw[eu]
   exact hq2
 ·refine match h with|⟨k2,⟨ks2,hl2,hq2⟩,_,o4,o5,e_1⟩=>?_
  subst e_1
  refine match pj hR n4 hU hV n (d9 _) with|⟨pp1,pp2,pp3,pp4⟩=>?_
  have hlu:=uI rs us ws n
  have gH2:j4 H H2:=fun z o ez=>k2 _ _ (u3 ez hlt) (g0 _ _ ez)
  refine ⟨_,rfl,_,rfl,_,rfl,.inr ⟨lt,a,b,v,n,1,us,ws,rs,rfl,⟨Dt.mkI (u3 ha hlt) (gH2 _ _ ha),hU,Dt.mkI (u3 hb hlt) (gH2 _ _ hb),hV,hv0.kp k2,hR,n1,n4,by decide⟩,fun D as T' H3 hDn g3 pT oT hD r3=>?_⟩⟩
  have hl3:=g3 _ _ hl2
  have hq3:QE H3 (ie n rs us ws) ks2:=hq2.mono fun a xs e=>g3 _ _ e
  refine ⟨_,rfl,lt,ks2,rfl,hl3,by rw[hq3.len];show (ie n rs us ws).length<64;unfold ie;lia,fun kx hkx=>?_,fun Dk ys ms H4 pm om g4 hDk tl=>⟨Dk,rfl,⟨_,.of hDk⟩,?_⟩⟩
  ·obtain ⟨ix,hix⟩:=List.getElem?_of_mem hkx
   obtain ⟨pq,hpq,ek,_⟩:=hq3.get (k:=kx.1) (x:=kx.2) hix
   have hmm:pq∈ie n rs us ws:=t7 hpq
   refine ⟨pq.1,ek,fun z=>?_⟩
   have:=(pp1 pq hmm).len
   rw[z] at this
   simp at this;lia
  rw[yJ hq3] at pm
  have hq4:QE H4 (ie n rs us ws) ks2:=hq3.mono fun a xs e=>g4 _ _ e
  have hl4:=g4 _ _ hl3
  have ha4:=g4 _ _ (g3 _ _ (gH2 _ _ ha))
  have hml:ms.length=ys.length:=tl.len
  have hms:ms.length<=4:=by rw[pm.length_eq,b7];unfold ie;lia
  refine iz (K:=K) (a:=Dk) (xs:=ys) (sz (by lia)) (fun i zs H5=>j4 H4 H5/\i<=ms.length/\∃bs:List Addr,zs=bs.map V.ref/\bs.length=i/\R3 n H5 (fb (us++·) (cU (ie n rs us ws) (ms.take i))) bs) ⟨j4.refl _,j5 _,[],rfl,rfl,.nil⟩ (fun i zs H5 h=>?_) (fun i zs H5 _ h=>.of (h.1 _ _ hDk)) rfl (fun i zs H5 x hx h=>?_) (fun zs H5 h=>?_)
  ·obtain ⟨_,_,bs,rfl,hb,_⟩:=h
   rw[b7];exact hb
  ·refine match h with|⟨g5,hi,bs,e_7,hbs,r5⟩=>?_
   subst e_7
   refine match tl.get hx with|⟨z,xa,hz,e_8,hxa⟩=>?_
   subst e_8
   have hil:=(List.getElem?_eq_some_iff.mp hz).1
   have hzm:z∈(ie n rs us ws).map (·.1):=pm.mem_iff.mp (t7 hz)
   refine match yK hq4 hzm with|⟨vv,hvv,qq,e_9,hqq⟩=>?_
   subst e_9
   have hxk:H5 xa=some (.tup ((kI z).map kV)):=by rw[bK];exact g5 _ _ hxa
   have dg:=qz.t (g5 _ _ hl4) hxk
   rw[hvv] at dg
   refine ⟨_,rfl,_,rfl,_,rfl,_,rfl,lt,_,rfl,dg,(by show 3<=i8;decide),fun qn hqn=>?_⟩
   have g7:j4 H5 (v8 H5 qn (.tup [.ref a,.ref xa,.ref qq])):=j4.new hqn
   refine ⟨g5.trans g7,hil,bs++[qn],by rw[j7];rfl,by rw[n8,hbs];rfl,?_⟩
   rw[t6,hz]
   have e9:fb (us++·) (cU (ie n rs us ws) (ms.take i++(some z).toList))=fb (us++·) (cU (ie n rs us ws) (ms.take i))++[(us++z,Y7 (ie n rs us ws) z)]:=by
    unfold fb cU;rw[j7,j7];rfl
   rw[e9]
   refine match Z8 (v:=z) hU.len with|⟨t1,t2⟩=>?_
   refine af ⟨a,xa,qq,i6,?_,?_,g7 _ _ (g5 _ _ hqq)⟩ (R3.mono r5 fun a zs e=>g7 _ _ e)
   ·show _=some (HO.tup (((us++z).take n).map V.int))
    rw[t1];exact g7 _ _ (g5 _ _ ha4)
   ·show _=some (HO.tup (((us++z).drop n).map V.int))
    rw[t2];exact g7 _ _ (g5 _ _ hxa)
  ·refine match h with|⟨g5,hi,bs,e_7,hbs,r5⟩=>?_
   subst e_7
   rw[<- hml,u5] at r5
   intro p7 hp7
   have g8:j4 H5 (v8 H5 p7 (.lst (bs.map V.ref))):=j4.new hp7
   have hp8:v8 H5 p7 (.lst (bs.map V.ref)) p7=some (.lst (bs.map V.ref)):=i6
   generalize v8 H5 p7 (.lst (bs.map V.ref))=H6 at g8 hp8
   have g46:j4 H3 H6:=g4.trans (g5.trans g8)
   have pk:=sH pp2 pm
   have eT:T'=fb (us++·) (cU (ie n rs us ws) ms):=by
    rw[yp hR n4 hU hV] at pT
    refine dR oT (Bk us (uW om)) ?_ (pT.trans (pk.symm.map _))
    refine (tj (Al Ey pT)).mpr ?_
    rw[<- yp hR n4 hU hV]
    exact (mL (k:=1) hR n1 n4 hU hV (by decide)).2.1
   subst eT
   exact GG (g46 _ _ hD) (R3.mono r3 fun a zs e=>g46 _ _ e) hp8 (R3.mono r5 fun a zs e=>g8 _ _ e) (q H6 (gH2.trans (g3.trans g46)))
end
end G
namespace G
open PySem PySem.Spec PyProof.Rows L2 Mt Md Mq M8 HP
theorem Ep {a b:List Int} (h:DI a=DI b):a=b:=by
 have h1:a.map E8=b.map E8:=by injection h
 exact Aj (fun x y e=>by injection e) |>.mp h1
noncomputable def bU (n:Nat) (p:List Int × Rat):Bool:=br 20 (DI (p.1.take n))&&br 20 (DI (p.1.drop n))
variable {n:Nat}
theorem Ee {m:Nat}{p:List Int × Rat} (hk:Uu n m p.1) (h:bU n p=true):Uu n 20 p.1:=by
 have h2:=Bool.and_eq_true_iff.mp h
 have go:∀{u:List Int},Mt.Y9 n m u->br 20 (DI u)=true->Mt.Y9 n 20 u:=fun {u} hu h2=>by
  obtain ⟨ms,e,_,_,hm,hs⟩:=fo h2
  have e2:=Ep e
  rw[e2]
  rw[e2] at hu
  exact ⟨hu.len,hm,hs⟩
 exact ⟨go hk.one h2.1,go hk.two h2.2⟩
section
variable {P:f6}{w:j6}{K:m6}{mg:Str->Option b8}{base:Heap}{f:Addr}{fd:A7}{ec:Nat->Addr}{Bs:Addr}
noncomputable abbrev Dj:Stmt:=ef 53
theorem fL:A2 ["_law_one","_law_other","_law_rule_here","_law_some","_law_found","_law_first","_law_second","_law_part","_law_third","_law_fourth","_law_more","_law_there"] ["_law_one","_law_other","_law_rule_here"] (u0 Dj):=⟨rfl,rfl,rfl,by decide +kernel,rfl,by decide +kernel,by decide +kernel⟩
theorem Gk (F:bC K "_law_twice_right" "_law_twice_right" Dj f fd) (B:Bt mg) (B3:GX mg) (c1:Z9 P w K mg base 7 "two_stands" ["one","other","rule","draws"] (mP ec)) (c2:U4 P w K mg base 7 "is_urn" ["thing"] ft) (c3:U4 P w K mg base 7 "_law_plus" ["_law_one","_law_other"] aw) (c4:U4 P w K mg base 7 "_law_by" ["_law_one","_law_other"] bt):L3 P w K mg base dA 8 f fd ["_law_one","_law_other","_law_rule_here"] mR:=by
 refine F.ok fL (fun vs H Q E h=>?_) (fun cdv A outer s H vs Q E hr h=>?_)
 ·obtain ⟨st,a,b,v,n,us,ws,rs,rfl,_⟩:=h
  rfl
 refine match h with|⟨st,a,b,v,n,us,ws,rs,e_0,na,nb,ha,hb,hv,hU,hV,hR,n1,n4,q⟩=>?_
 subst e_0
 refine ⟨_,(@m9 _ _ _ _ _ (@G4 _ _ 3 _ _ _ _ fL.nd rfl (t5 rfl) (O6 c1 hr rfl eU (@b6 _ _ _ _ _ (pv 0) (@b6 _ _ _ _ _ (pv 1) (@b6 _ _ _ _ _ (pv 2) (@b6 _ _ _ _ _ j9 d8 (by rfl)) (by rfl)) (by rfl)) (by rfl))) (by rfl) (by first|exact .inl rfl|exact .inr rfl))
  (@m9 _ _ _ _ _ (T5 (cQ (bG (A0 (dY rfl) rfl B.all boot_all (@b6 _ _ _ _ _ (F5 (N:=["_law_first","_law_second","_law_part"]) (ix:=[none,none,none]) (ifs:=[]) (tc:=M0) rfl (V2 (pv 3))
   (fun s H ex=>jS (K:=K) (n:=3) rfl rfl (v9 (Q5 (i:=0) (by decide +kernel) rfl (t5 rfl) (.inr rfl)) (v9 (Q5 (i:=1) (by decide +kernel) rfl (t5 rfl) (.inr rfl)) (v9 (Q5 (i:=2) (by decide +kernel) rfl (t5 rfl) (.inr rfl)) R5)))) (fun s H ex=>D8) (fun s H ex=>(jg (w5 c2 hr rfl (@b6 _ _ _ _ _ (pv 0) d8 (by rfl))) (jf (w5 c2 hr rfl (@b6 _ _ _ _ _ (pv 1) d8 (by rfl)))))) rfl (by decide +kernel) (by rfl) (by rfl) (fun _=>rfl)) d8 (by rfl))))) (@q5 _ _ _ (B8 eS)) J1)
  (@m9 _ _ _ _ _ (@G4 _ _ 4 _ _ _ _ fL.nd rfl (bZ rfl) vK (by rfl) (by first|exact .inl rfl|exact .inr rfl))
  (@m9 _ _ _ _ _ (bH E3 rfl (V2 (pv 3)) (je rfl (v9 (O0 (i:=5) fL.nd rfl (t5 rfl)) (v9 (O0 (i:=6) fL.nd rfl (t5 rfl)) (v9 (O0 (i:=7) fL.nd rfl (t5 rfl)) R5))))
  (@q5 _ _ _ (bH E3 rfl (V2 (O6 c1 hr rfl eU (@b6 _ _ _ _ _ (pv 5) (@b6 _ _ _ _ _ (pv 6) (@b6 _ _ _ _ _ (pv 2) (@b6 _ _ _ _ _ j9 d8 (by rfl)) (by rfl)) (by rfl)) (by rfl)))) (je rfl (v9 (O0 (i:=8) fL.nd rfl (t5 rfl)) (v9 (O0 (i:=9) fL.nd rfl (t5 rfl)) (v9 (O0 (i:=10) fL.nd rfl (t5 rfl)) R5))))
  (@m9 _ _ _ _ _ (@G4 _ _ 11 _ _ _ _ fL.nd rfl (t5 rfl) (@O5 _ _ _ _ _ (@b6 _ _ _ _ _ (pv 8) (@b6 _ _ _ _ _ (pv 9) d8 (by rfl)) (by rfl))) (by rfl) (by first|exact .inl rfl|exact .inr rfl))
  (@q5 _ _ _ (vH (EM hr) (pv 4) (pv 11) (w5 c3 hr rfl (@b6 _ _ _ _ _ (rG (EM hr) (pv 4) (pv 11) (@O5 _ _ _ _ _ (@b6 _ _ _ _ _ j9 (@b6 _ _ _ _ _ j9 d8 (by rfl)) (by rfl))) ⟨rfl,rfl,rfl,rfl⟩) (@b6 _ _ _ _ _ (w5 c4 hr rfl (@b6 _ _ _ _ _ (pv 7) (@b6 _ _ _ _ _ (pv 10) d8 (by rfl)) (by rfl))) d8 (by rfl)) (by rfl))) rfl))))))
  (@q5 _ _ _ (B8 (cL (zd hr.units) (O6 c1 hr rfl eU (@b6 _ _ _ _ _ (pv 0) (@b6 _ _ _ _ _ (pv 1) (@b6 _ _ _ _ _ (pv 2) (@b6 _ _ _ _ _ j9 d8 (by rfl)) (by rfl)) (by rfl)) (by rfl))) (F5 (N:=["_law_pair","_law_found"]) (ix:=[none,some 4]) (ifs:=[]) (tc:=M0) rfl (V2 (A0 (uU rfl hr.units) rfl B3.sorted cN (@b6 _ _ _ _ _ (pv 4) d8 (by rfl))))
   (fun s H ex=>Q5 (i:=0) (by decide +kernel) rfl (t5 rfl) (.inr rfl)) (fun s H ex=>D8) (fun s H ex=>(@O5 _ _ _ _ _ (@b6 _ _ _ _ _ (@G9 _ _ _ _ _ _ _ (EK (K:=K) rfl) (pv 0) j9 (fun _ _=>rfl)) (@b6 _ _ _ _ _ (@G9 _ _ _ _ _ _ _ (EK (K:=K) rfl) (pv 0) j9 (fun _ _=>rfl)) (@b6 _ _ _ _ _ (yV (P:=P) (w:=w) rfl rfl (EM hr) (pv 1) (pv 0) (fun _ _=>rfl)) d8 (by rfl)) (by rfl)) (by rfl)))) rfl (by decide +kernel) (by rfl) (by rfl) (fun _=>rfl)) (N4 _)))))))),?_⟩
 have ndt:∀a ps ys,G2 P w a ps≠.tup ys:=fun _ _ _ z=>by unfold G2 at z;cases z
 have etw:∀{k:Nat}{u v:List Int},k % 2=0->tw n rs k u v=ao n rs k [(u++v,1)]:=fun {k u v} h=>by unfold tw;rw[if_neg (by lia)]
 refine ⟨_,rfl,_,rfl,_,rfl,.inr ⟨st,a,b,v,n,2,us,ws,rs,rfl,⟨Dt.mkI na ha,hU,Dt.mkI nb hb,hV,hv,hR,n1,n4,by decide⟩,fun Ds as T H1 hDn g1 pT oT hD r3=>?_⟩⟩
 refine match mL (k:=2) hR n1 n4 hU hV (by decide) with|⟨w1,w2,w3,w4⟩=>?_
 have hK:KU n 30 T:=fun p hp=>w1 p (pT.mem_iff.mp hp)
 have hE:aF (LL ^ 2) (4 ^ (2*2)) T:=fun p hp=>w3 p (pT.mem_iff.mp hp)
 have hTl:T.length<128:=by rw[pT.length_eq];exact w4
 have hal:as.length=T.length:=(G3 r3).symm
 refine ⟨_,rfl,Ds,rfl,⟨_,.of hD⟩,?_⟩
 refine dq (K:=K) (a:=Ds) (xs:=as.map V.ref) (sz (by rw[b7];lia)) (fun j zs Hj=>j4 H1 Hj/\j<=T.length/\zs=((T.take j).map fun p=>V.bl (bU n p))) ⟨j4.refl _,j5 _,rfl⟩ (fun j zs Hj h=>?_) (fun j zs Hj _ h=>.of (h.1 _ _ hD)) ⟨rfl,rfl,rfl⟩ (fun j zs Hj x hx h=>?_) (fun zs H2 h=>?_)
 ·obtain ⟨_,hj,rfl⟩:=h
  rw[b7,m8];lia
 ·refine match h with|⟨gj,hj,e_3⟩=>?_
  subst e_3
  have hjl:j<T.length:=by have:=(List.getElem?_eq_some_iff.mp hx).1;rw[b7,hal] at this;exact this
  refine match Paired.get r3 (d0 hjl) with|⟨xa,hxa,c,e,qq,hx1,hx2,hx3,hx4⟩=>?_
  rw[m7,hxa] at hx
  cases hx
  have hku:=hK _ (C4 hjl)
  have hfin:∀x,x=bU n T[j]->((T.take j).map fun p=>V.bl (bU n p))++[V.bl x]=((T.take (j+1)).map fun p=>V.bl (bU n p)):=fun x hx=>by
   rw[t6,d0 hjl,j7,hx];rfl
  refine ⟨xa,.ref c,.ref e,.ref qq,rfl,.of (gj _ _ hx1),_,rfl,.ref c,c+1,DI (T[j].1.take n),rfl,Dt.mkI (q9 (Q3 _)) (gj _ _ hx2),dh (by rw[hku.one.len];lia),fun Hk gk=>⟨_,rfl,?_⟩⟩
  cases hb1:br 20 (DI (T[j].1.take n))
  ·refine ak ?_
   exact ⟨gj.trans gk,hjl,hfin _ (by unfold bU;rw[hb1];rfl)⟩
  ·refine bB ?_
   refine ⟨_,rfl,.ref e,e+1,DI (T[j].1.drop n),rfl,Dt.mkI (q9 (Q3 _)) (gk _ _ (gj _ _ hx3)),dh (by rw[hku.two.len];lia),fun Hl gl=>⟨(gj.trans gk).trans gl,hjl,hfin _ (by unfold bU;rw[hb1];rfl)⟩⟩
 refine match h with|⟨g2,_,e_3⟩=>?_
 subst e_3
 rw[b7,hal,u5]
 intro pz hpz
 have g3:j4 H2 (v8 H2 pz (.lst (T.map fun p=>V.bl (bU n p)))):=j4.new hpz
 refine ⟨pz,_,rfl,.inl (.of i6),?_,_,rfl,?_⟩
 ·rw[N9,U2];intro p _;rfl
 have g13:=g2.trans g3
 try dsimp -proj only[T6]
 generalize v8 H2 pz (.lst (T.map fun p=>V.bl (bU n p)))=H3 at g3 g13
 clear g2 g3 hpz
 have gH3:=g1.trans g13
 have hD3:=g13 _ _ hD
 have r33:R3 n H3 T as:=R3.mono r3 fun a zs e=>g13 _ _ e
 cases hall:(T.map fun p=>V.bl (bU n p)).all kK
 ·refine bB ?_
  exact q H3 gH3
 refine ak ?_
 have hT20:∀p∈T,Uu n 20 p.1:=fun p hp=>by
  rw[N9,U2] at hall
  exact Ee (hK p hp) (hall p hp)
 clear hall r3 hD
 intro lt hlt
 have gb:j4 H3 (v8 H3 lt (G2 P w lt [])):=j4.new hlt
 have hlb:v8 H3 lt (G2 P w lt []) lt=some (G2 P w lt []):=i6
 refine ⟨_,rfl,Ds,rfl,⟨_,.of (gb _ _ hD3)⟩,?_⟩
 obtain ⟨Hb,eHb⟩:∃Hb,Hb=v8 H3 lt (G2 P w lt []):=⟨_,rfl⟩
 rw[<- eHb] at gb hlb
 have nll:Ds≠lt:=u3 hD3 hlt
 have hvb:Dt lt Hb (DR rs) v:=qy hlb (hv.kp ((gH3.trans gb).kp st))
 have gHb:=gH3.trans gb
 obtain ⟨N,hN⟩:∃N,N=LL ^ 2*LL ^ 2:=⟨_,rfl⟩
 have hN0:0<N:=by rw[hN];exact aK (bW 2) (bW 2)
 have hN1:N<=2 ^ 1200:=by
  have:(2:Nat) ^ 1200=2 ^ 600*2 ^ 600:=by rw[<- D5]
  rw[hN,this];exact u4 (gE 2) (gE 2)
 have big:∀X:Nat,X<=2 ^ 31->N*X<=2 ^ 1231:=fun X hX=>by
  have:(2:Nat) ^ 1231=2 ^ 1200*2 ^ 31:=by rw[<- D5]
  rw[this];exact u4 hN1 hX
 have hN2:N<=2 ^ 1231:=f9 hN1 (u6 (by decide) (by decide))
 have bdx:∀{x:Rat},Vq (LL ^ 2) (4 ^ (2*2)) x->Bd 700 x:=fun {x} h=>h.bd (bW 2) (by
  have:(2:Nat) ^ 700=2 ^ 600*2 ^ 100:=by rw[<- D5]
  rw[this];exact u4 (gE 2) (by decide)) (f9 (gE 2) (u6 (by decide) (by decide)))
 rw[etw (by decide)] at pT
 have sub:∀p∈T,∀z∈(ao n rs 2 [(p.1,1)]).map (·.1),z∈(ao n rs 4 [(us++ws,1)]).map (·.1):=fun p hp z hz=>by
  rw[show (4:Nat)=2+2 from rfl,qh n rs 2 [(us++ws,1)] 2,kg 2]
  exact ⟨p.1,List.mem_map.mpr ⟨p,pT.mem_iff.mp hp,rfl⟩,hz⟩
 have l4:(ao n rs 4 [(us++ws,1)]).length<128:=qg hR n1 n4 hU hV (by decide)
 refine iq (K:=K) (a:=Ds) (xs:=as.map V.ref) (fun i σ H4=>Kp lt Hb H4/\(∃D ys,H4 lt=some (G2 P w lt ys)/\QP n H4 D ys/\vc n 30 N (2 ^ 16*(128*i)) D (fun φ=>M5 (T.take i) (fun y=>M5 (ao n rs 2 [(y,1)]) φ)) (fun z=>∃p∈T.take i,z∈(ao n rs 2 [(p.1,1)]).map (·.1)))/\i<=T.length/\∃o5 o6 o7 o8 o9 o10 o11,σ=[some (.ref a),some (.ref b),some v,some (.ref Ds),some (.ref lt),o5,o6,o7,o8,o9,o10,o11])
  ⟨by rw[eHb];exact Kp.refl _ _,⟨[],[],by rw[<- hlb,eHb];rfl,.nil,(vc.nil n 30 N).eqS (fun φ=>rfl) (fun z=>by simp)⟩,j5 _,none,none,none,none,none,none,none,by rfl⟩ (fun i σ H4 _ h=>.of (h.1 _ _ nll (gb _ _ hD3))) (fun i x σ H4 hx h=>?_) (fun σ H4 h=>?_)
 ·refine match h with|⟨k4,⟨D4,ys4,hl4,hq4,hM4⟩,hi,o5,o6,o7,o8,o9,o10,o11,e_4⟩=>?_
  subst e_4
  have hil:i<T.length:=by have:=(List.getElem?_eq_some_iff.mp hx).1;rw[b7,hal] at this;exact this
  refine match Paired.get r33 (d0 hil) with|⟨xa,hxa,c,e,qq,hx1,hx2,hx3,hx4⟩=>?_
  rw[m7,hxa] at hx
  cases hx
  generalize hum:T[i]=um at hx2 hx3 hx4
  have hmem:um∈T:=by rw[<- hum];exact C4 hil
  have hum':T[i]?=some um:=by rw[d0 hil,hum]
  obtain ⟨kk,mm⟩:=um
  have hku:=hT20 (kk,mm) hmem
  have hmm:Vq (LL ^ 2) (4 ^ (2*2)) mm:=hE (kk,mm) hmem
  have t34:∀a ys,H3 a=some (.tup ys)->H4 a=some (.tup ys):=fun a ys e=>cz hlb (ndt _ _) k4 _ _ (gb _ _ e)
  have hc4:=t34 _ _ hx2
  have he4:=t34 _ _ hx3
  have hq4':H4 qq=some (.tup ((fr mm).map V.int)):=t34 _ _ hx4
  have nd4:∀{z:Addr}{ys:List V},H4 z=some (.tup ys)->z≠lt:=fun {z ys} h e=>by
   rw[e,hl4] at h;injection h with h;exact ndt _ _ _ h
  refine ⟨xa,_,rfl,.of (t34 _ _ hx1),rfl,_,_,rfl,_,_,rfl,_,_,rfl,rfl,?_⟩
  refine ⟨_,rfl,_,rfl,_,rfl,.inr ⟨lt,c,e,v,n,2,kk.take n,kk.drop n,rs,rfl,⟨Dt.mkI (nd4 hc4) hc4,hku.one,Dt.mkI (nd4 he4) he4,hku.two,hvb.kp k4,hR,n1,n4,by decide⟩,fun pl bs S H5 hpn g5 pS oS hpl rS=>⟨pl,rfl,⟨_,.of hpl⟩,?_⟩⟩⟩
  refine match mL (k:=2) hR n1 n4 hku.one hku.two (by decide) with|⟨v1,v2,v3,v4⟩=>?_
  have hSl:S.length<128:=by rw[pS.length_eq];exact v4
  rw[etw (by decide),y7] at pS v1 v3
  have hbl:bs.length=S.length:=(G3 rS).symm
  have hl5:=g5 _ _ hl4
  have npl:pl≠lt:=fun z=>by rw[z,hl4] at hpn;cases hpn
  refine iq (K:=K) (a:=pl) (xs:=bs.map V.ref) (fun j σ H6=>Kp lt H5 H6/\(∃D ys,H6 lt=some (G2 P w lt ys)/\QP n H6 D ys/\vc n 30 N (2 ^ 16*(128*i)+2 ^ 16*j) D (fun φ=>M5 (T.take i) (fun y=>M5 (ao n rs 2 [(y,1)]) φ)+mm*M5 (S.take j) φ) (fun z=>z∈(S.take j).map (·.1) ∨ ∃p∈T.take i,z∈(ao n rs 2 [(p.1,1)]).map (·.1)))/\j<=S.length/\∃o8 o9 o10 o11,σ=[some (.ref a),some (.ref b),some v,some (.ref Ds),some (.ref lt),some (.ref c),some (.ref e),some (.ref qq),o8,o9,o10,o11])
   ⟨Kp.refl _ _,⟨D4,ys4,hl5,hq4.mono fun a zs e=>g5 _ _ e,(hM4.eqS (fun φ=>by show _=_+mm*0;grind) (fun z=>by simp)).mono (by lia)⟩,j5 _,o8,o9,o10,o11,rfl⟩ (fun j σ H6 _ h=>.of (h.1 _ _ npl hpl)) (fun j x σ H6 hx h=>?_) (fun σ H6 h=>?_)
  ·refine match h with|⟨k6,⟨D6,ys6,hl6,hq6,hM6⟩,hj,o8,o9,o10,o11,e_5⟩=>?_
   subst e_5
   have hjl:j<S.length:=by have:=(List.getElem?_eq_some_iff.mp hx).1;rw[b7,hbl] at this;exact this
   refine match Paired.get rS (d0 hjl) with|⟨sa,hsa,y1,y2,sq,hs1,hs2,hs3,hs4⟩=>?_
   rw[m7,hsa] at hx
   cases hx
   generalize hsm:S[j]=sm at hs2 hs3 hs4
   have hsmem:sm∈S:=by rw[<- hsm];exact C4 hjl
   have hsm':S[j]?=some sm:=by rw[d0 hjl,hsm]
   obtain ⟨sk,sx⟩:=sm
   have hskU:Uu n 30 sk:=v1 _ (pS.mem_iff.mp hsmem)
   have hsxv:Vq (LL ^ 2) (4 ^ (2*2)) sx:=v3 _ (pS.mem_iff.mp hsmem)
   have hpv:Vq N (2 ^ 16) (mm*sx):=by
    have:=hmm.mul hsxv
    rw[<- hN] at this
    exact this.mono (by decide)
   have t56:=cz hl5 (ndt _ _) k6
   have h61:=t56 _ _ hs2
   have h62:=t56 _ _ hs3
   have h63:H6 sq=some (.tup ((fr sx).map V.int)):=t56 _ _ hs4
   have h64:=t56 _ _ (g5 _ _ hq4')
   have d1:=bdx hmm
   have d2:=bdx hsxv
   have d3:Bd 1231 (mm*sx):=hpv.bd hN0 (big _ (by decide)) hN2
   have vvq:=hM6.all.val (k:=sk)
   have d4:Bd 1231 (Y7 D6 sk):=vvq.bd hN0 (big _ (by rw[<- V1];exact f9 (B0 _ (show 128*i+j<=2 ^ 15 by lia)) (by decide))) hN2
   have hD6:D6.length<=128:=f9 (Gw hM6.nd fun z hz=>by
    rcases (hM6.mem z).mp hz with hz|⟨p,hp,hz⟩
    ·refine sub (kk,mm) hmem z ?_
     obtain ⟨s,hs,rfl⟩:=List.mem_map.mp hz
     exact List.mem_map.mpr ⟨s,pS.mem_iff.mp (v7 hs),rfl⟩
    ·exact sub p (v7 hp) z hz) (O3 l4)
   refine ⟨sa,_,rfl,.of (t56 _ _ hs1),rfl,_,_,rfl,_,_,rfl,_,_,rfl,rfl,?_⟩
   refine ⟨_,rfl,_,rfl,(by show 2<=i8;decide),fun pt hpt=>?_⟩
   have g7:j4 H6 (v8 H6 pt (.tup [.ref y1,.ref y2])):=j4.new hpt
   have h7t:v8 H6 pt (.tup [.ref y1,.ref y2]) pt=some (.tup [.ref y1,.ref y2]):=i6
   try dsimp -proj only
   generalize v8 H6 pt (.tup [.ref y1,.ref y2])=H7 at g7 h7t
   have kpt:∀{H':Hp},j4 H7 H'->tE H' (kP n sk) pt:=fun {H'} g=>by
    refine ⟨y1,y2,g _ _ h7t,?_,?_⟩
    ·show H' y1=some (.tup ((kI _).map kV))
     rw[bK];exact g _ _ (g7 _ _ h61)
    ·show H' y2=some (.tup ((kI _).map kV))
     rw[bK];exact g _ _ (g7 _ _ h62)
   refine ⟨_,rfl,lt,ys6,rfl,.inl (g7 _ _ hl6),_,rfl,(by show 2<=i8;decide),fun p8 hp8=>?_⟩
   have g8:j4 H7 (v8 H7 p8 (.tup [.int 0,.int 1])):=j4.new hp8
   have hz8:eB (v8 H7 p8 (.tup [.int 0,.int 1])) 0 (.ref p8):=⟨p8,rfl,i6⟩
   try dsimp -proj only
   generalize v8 H7 p8 (.tup [.int 0,.int 1])=H8 at g8 hz8
   have g68:=g7.trans g8
   have hq8:QP n H8 D6 ys6:=hq6.mono fun a zs e=>g68 _ _ e
   refine match hq8.val (k:=sk) hz8 with|⟨r8,er8,hr8⟩=>?_
   refine ⟨ys6,kP n sk,pt,.inl (g68 _ _ hl6),hq8.pks,rfl,kpt g8,?_⟩
   rw[er8]
   refine ⟨_,rfl,_,rfl,qq,sq,mm,sx,700,700,rfl,g68 _ _ h64,g68 _ _ h63,Rat.num_nonneg.mpr hmm.nn,Rat.num_nonneg.mpr hsxv.nn,d1,d2,by decide,fun p9 H9 g9 hp9=>?_⟩
   refine ⟨r8,p9,_,mm*sx,1231,1231,rfl,g9 _ _ hr8,hp9,Rat.num_nonneg.mpr vvq.nn,Rat.num_nonneg.mpr hpv.nn,d4,d3,by decide,fun p10 H10 g10 hp10=>?_⟩
   have g610:j4 H6 H10:=g68.trans (g9.trans g10)
   have hq10:QP n H10 D6 ys6:=hq6.mono fun a zs e=>g610 _ _ e
   have kp10:=kpt (g8.trans (g9.trans g10))
   refine ⟨_,rfl,_,rfl,lt,ys6,kP n sk,pt,p10,rfl,rfl,rfl,g610 _ _ hl6,hq10.pks,kp10,by rw[<- hq10.len];exact de (by lia),?_⟩
   have hq11:=QP.put (x:=mm*sx) kp10 hq10 hM6.nd hp10
   refine ⟨(k6.trans (g610.kp lt)).trans Kp.at,⟨_,_,i6,hq11.mono (cz (g610 _ _ hl6) (ndt _ _) Kp.at),?_⟩,hjl,_,_,_,_,rfl⟩
   have et:S.take (j+1)=S.take j++[(sk,sx)]:=by rw[t6,hsm'];rfl
   rw[et]
   refine ((hM6.add hskU hpv).eqS (fun φ=>?_) (fun z=>?_)).mono (by rw[V1];lia)
   ·rw[fc,C5]
    show _=_+mm*(_+(sx*φ sk+0))
    grind
   ·rw[j7,List.mem_append]
    show _ ↔ ((_ ∨ z∈[sk]) ∨ _)
    rw[List.mem_singleton]
    constructor
    ·rintro (h|h|h)
     ·exact .inl (.inr h)
     ·exact .inl (.inl h)
     ·exact .inr h
    ·rintro ((h|h)|h)
     ·exact .inr (.inl h)
     ·exact .inl h
     ·exact .inr (.inr h)
  ·refine match h with|⟨k6,⟨D6,ys6,hl6,hq6,hM6⟩,_,o8,o9,o10,o11,e_5⟩=>?_
   subst e_5
   refine ⟨(k4.trans (g5.kp lt)).trans k6,⟨D6,ys6,hl6,hq6,?_⟩,hil,_,_,_,_,_,_,_,rfl⟩
   rw[b7,hbl,u5] at hM6
   have et:T.take (i+1)=T.take i++[(kk,mm)]:=by rw[t6,hum'];rfl
   rw[et]
   refine (hM6.eqS (fun φ=>?_) (fun z=>?_)).mono (by lia)
   ·rw[fc,C5,jm pS]
    show _=_+(mm*_+0)
    grind
   ·have e1:z∈S.map (·.1) ↔ z∈(ao n rs 2 [(kk,1)]).map (·.1):=(pS.map _).mem_iff
    rw[e1]
    constructor
    ·rintro (h|⟨p,hp,h⟩)
     ·exact ⟨_,r0 _ (List.mem_singleton.mpr rfl),h⟩
     ·exact ⟨p,E9 _ hp,h⟩
    ·rintro ⟨p,hp,h⟩
     rcases List.mem_append.mp hp with hp|hp
     ·exact .inr ⟨p,hp,h⟩
     ·rw[List.mem_singleton.mp hp] at h
      exact .inl h
 ·refine match h with|⟨k4,⟨D4,ys4,hl4,hq4,hM4⟩,_,o5,o6,o7,o8,o9,o10,o11,e_4⟩=>?_
  subst e_4
  rw[b7,hal,u5] at hM4
  refine match gD hR n4 hU hV 4 (by decide) with|⟨_,z2,_⟩=>?_
  have pD:=tN hM4 pT z2
  have gH4:j4 H H4:=fun z o ez=>k4 _ _ (u3 (gH3 _ _ ez) hlt) (gHb _ _ ez)
  refine ⟨_,rfl,_,rfl,_,rfl,.inr ⟨lt,a,b,v,n,4,us,ws,rs,rfl,⟨Dt.mkI (u3 (gH3 _ _ ha) hlt) (gH4 _ _ ha),hU,Dt.mkI (u3 (gH3 _ _ hb) hlt) (gH4 _ _ hb),hV,hvb.kp k4,hR,n1,n4,by decide⟩,fun Df fs Tf H5 hfn g5 pF oF hF rF=>?_⟩⟩
  have hl5:=g5 _ _ hl4
  have hq5:QP n H5 D4 ys4:=hq4.mono fun a zs e=>g5 _ _ e
  have rk:=hq5.rk
  refine ⟨_,rfl,lt,ys4,n,xR H5,xQ H5,rfl,hl5,by rw[<- hq5.len,pD.length_eq];exact l4,rk.trs hM4.keys hM4.nd,fun Dk as' H6 pm so g6 hDkn hDk=>⟨Dk,rfl,⟨_,.of hDk⟩,?_⟩⟩
  refine match rk.sorted pm so with|⟨T',pT',oT',rk'⟩=>?_
  have hal':as'.length=T'.length:=(G3 rk').symm
  have hl6:=g6 _ _ hl5
  have hq6:QP n H6 D4 ys4:=hq5.mono fun a zs e=>g6 _ _ e
  refine iz (K:=K) (a:=Dk) (xs:=as'.map V.ref) (by rw[b7,hal',pT'.length_eq,pD.length_eq];exact O3 (de (by lia))) (fun i ys H7=>j4 H6 H7/\i<=as'.length/\∃bs:List Addr,ys=bs.map V.ref/\bs.length=i/\R3 n H7 (T'.take i) bs) ⟨j4.refl _,j5 _,[],rfl,rfl,.nil⟩ (fun i ys H7 h=>?_) (fun i ys H7 _ h=>.of (h.1 _ _ hDk)) rfl (fun i ys H7 x hx h=>?_) (fun ys H7 h=>?_)
  ·obtain ⟨_,_,bs,rfl,hb,_⟩:=h
   rw[b7];exact hb
  ·refine match h with|⟨g7,hi,bs,e_6,hbs,r7⟩=>?_
   subst e_6
   have hil:i<T'.length:=by have:=(List.getElem?_eq_some_iff.mp hx).1;rw[b7,hal'] at this;exact this
   refine match Paired.get rk' (d0 hil) with|⟨xa,hxa,c,e,hx1,hx2,hx3⟩=>?_
   rw[m7,hxa] at hx
   cases hx
   have hm':T'[i]∈D4:=pT'.mem_iff.mp (C4 hil)
   refine match hq5.at_ hM4.nd hm' with|⟨vq,hvq,hfq⟩=>?_
   have g57:=g6.trans g7
   have hh1:=g57 _ _ hx1
   have kpt:tE H7 (kP n T'[i].1) xa:=⟨c,e,hh1,by show H7 c=some (.tup ((kI _).map kV));rw[bK];exact g57 _ _ hx2,by show H7 e=some (.tup ((kI _).map kV));rw[bK];exact g57 _ _ hx3⟩
   refine ⟨_,rfl,xa,_,_,_,rfl,rfl,.of hh1,rfl,_,rfl,xa,_,_,_,rfl,rfl,.of hh1,rfl,_,rfl,_,rfl,lt,ys4,kP n T'[i].1,xa,vq,rfl,.inl (g7 _ _ hl6),(hq6.mono fun a zs e=>g7 _ _ e).pks,rfl,kpt,hvq,(by show 3<=i8;decide),fun qn hqn=>?_⟩
   have g8:j4 H7 (v8 H7 qn (.tup [.ref c,.ref e,.ref vq])):=j4.new hqn
   refine ⟨g7.trans g8,by lia,bs++[qn],by rw[j7];rfl,by rw[n8,hbs];rfl,?_⟩
   rw[t6,d0 hil]
   exact af ⟨c,e,vq,i6,g8 _ _ (g57 _ _ hx2),g8 _ _ (g57 _ _ hx3),g8 _ _ (g57 _ _ hfq)⟩ (R3.mono r7 fun a zs e=>g8 _ _ e)
  ·refine match h with|⟨g7,hi,bs,e_6,hbs,r7⟩=>?_
   subst e_6
   rw[b7,hal',u5] at r7
   intro p8 hp8
   have g8:j4 H7 (v8 H7 p8 (.lst (bs.map V.ref))):=j4.new hp8
   have h88:v8 H7 p8 (.lst (bs.map V.ref)) p8=some (.lst (bs.map V.ref)):=i6
   generalize v8 H7 p8 (.lst (bs.map V.ref))=H8 at g8 h88
   have g58:j4 H5 H8:=g6.trans (g7.trans g8)
   rw[etw (by decide)] at pF
   have eT:Tf=T':=dR oF oT' ((tj (Al Ey pF)).mpr z2) (pF.trans ((pT'.trans pD).symm))
   subst eT
   exact GG (g58 _ _ hF) (R3.mono rF fun a zs e=>g58 _ _ e) h88 (R3.mono r7 fun a zs e=>g8 _ _ e) (q H8 (gH4.trans (g5.trans g58)))
end
set_option maxHeartbeats 8000000
theorem pH {H:Hp}{p r:Addr}{a b:List Int}{Q:VK} (hp:H p=some (.tup (a.map V.int))) (hr:H r=some (.tup (b.map V.int))) (q:Q (.bl (!decide (a=b))) H):Dy (.ref p) (.ref r) H Q :=
 Bx (l:=p+r+1) (Dt.mkI (q9 (Y1 (u9 p r))) hp) (Dt.mkI (q9 (Y1 (K5 r p))) hr) q
theorem Gy {S R:L2.St->Hp->Prop}{A:Prop} (main:(∀σ H',S σ H'->R σ H')->A) (cu:∀σ H',S σ H'->R σ H'):A:=main cu
theorem zK {rs:List (List Int)}{g:Int} (h:jV rs=some g):∀r∈rs,r.sum=g:=by
 unfold jV at h
 split at h
 ·rename_i z
  cases h
  intro r hr
  exact beq_iff_eq.mp (List.all_eq_true.mp z r.sum (List.mem_map.mpr ⟨r,hr,rfl⟩))
 ·cases h
variable {T:v5}
theorem AR :M5 T (fun _=>1)=P9 (T.map (·.2)):=by
 rw[lF]
 congr 1
 refine P1 fun p _=>?_
 show (1:Rat)*p.2=p.2
 grind
theorem CN {k:Nat}{rs:List (List Int)}{u v:List Int}{g:Int} (hR:jW n 5 rs) (n1:1<=n) (n4:n<=4) (hu:Y9 n 20 u) (hv:Y9 n 20 v) (hg:∀r∈rs,r.sum=g) (hk:k<=4) {p:List Int × Rat} (hp:p∈tw n rs k u v):(p.1.take n).sum=u.sum+g*((k / 2:Nat):Int)/\(p.1.drop n).sum=v.sum+g*((k - k / 2:Nat):Int):=by
 unfold tw at hp
 split at hp
 ·rename_i h1
  obtain ⟨q,hq,e⟩:=List.mem_map.mp hp
  have hku:Uu n (20+5*k) (q.1.drop n++q.1.take n):=by
   have:=(mL hR n1 n4 hu hv hk).1 p (by unfold tw;rw[if_pos h1];exact hp)
   rw[<- e] at this;exact this
  have h:=(qf hR n4 hu hv hg k (by lia) q hq).2 h1
  have hl:(q.1.drop n).length=n:=by
   have a:=hku.one.len
   have b:=hku.two.len
   rw[m8,n8,A6,m8] at a
   rw[A6,n8,A6,m8] at b
   rw[A6]
   lia
  obtain ⟨t1,t2⟩:=Z8 (v:=q.1.take n) hl
  rw[<- e]
  show ((q.1.drop n++q.1.take n).take n).sum=_/\((q.1.drop n++q.1.take n).drop n).sum=_
  rw[t1,t2]
  exact h
 ·rename_i h1
  exact (qf hR n4 hu hv hg k (by lia) p hp).1 (by lia)
theorem Gx {m N E:Nat}{g:List Int->List Int} (h:∀p∈T,Y9 n m (g p.1)) (n4:n<=4) (hm:m<=50) (hE:aF N E T) (k:Nat):Vq (LL*N) (1*E*T.length) (mQ g T k):=by
 have:=gT (N:=LL*N) (B:=1*E) (xs:=T.map fun p=>Mt.Q0 (g p.1) k*p.2) (fun x hx=>by
  obtain ⟨p,hp,e⟩:=List.mem_map.mp hx
  rw[<- e];exact (kT (h p hp) n4 hm k).mul (hE p hp))
 rw[b7] at this;exact this
theorem AX {j k:Nat}{H:Hp}{x y:Addr}{xs ys:List V} (hj:j<2) (hK:KU n k T) (h2:H x=some (.tup xs)) (h3:fH H (uG (gQ n) T n) xs) (h4:H y=some (.tup ys)) (h5:fH H (uG (gS n) T n) ys):
  ∃(g:List Int->List Int) (sa:Addr) (zs:List V),An [V.ref x,.ref y] (j:Int)=some (.ref sa)/\H sa=some (.tup zs)/\fH H (uG g T n) zs/\(∀p∈T,Y9 n k (g p.1)) /\
   ∀(Hx:Hp) (p:List Int × Rat) (ca da:Addr) (q:V),Hx ca=some (.tup ((p.1.take n).map V.int))->Hx da=some (.tup ((p.1.drop n).map V.int))->∃ra,An [V.ref ca,.ref da,q] (j:Int)=some (.ref ra)/\Hx ra=some (.tup ((g p.1).map V.int)):=by
 match j,hj with
 | 0,_=>exact ⟨_,x,xs,rfl,h2,h3,fun p hp=>(hK p hp).one,fun Hx p ca da q a b=>⟨ca,rfl,a⟩⟩
 | 1,_=>exact ⟨_,y,ys,rfl,h4,h5,fun p hp=>(hK p hp).two,fun Hx p ca da q a b=>⟨da,rfl,b⟩⟩
noncomputable def kO:Sp:=fun vs H Q E=>vt vs H Q E ∨ qT vs H Q E
section
variable {P:f6}{w:j6}{K:m6}{mg:Str->Option b8}{base:Heap}{f:Addr}{fd:A7}
theorem zj (F:bC K "_law_total" "_law_total" kY f fd) (c1:U4 P w K mg base 2 "_law_plus" ["_law_one","_law_other"] aw):L3 P w K mg base dA 3 f fd ["_law_some"] kO :=
 ⟨fun vs H Q E h=>h.elim ((vP (P:=P) (w:=w) (base:=base) F c1).len vs H Q E) ((rL F c1).len vs H Q E),
  fun A outer s H args us vs Q E hr he hb hv h=>h.elim ((vP (P:=P) (w:=w) (base:=base) F c1).run A outer s H args us vs Q E hr he hb hv) ((rL F c1).run A outer s H args us vs Q E hr he hb hv)⟩
structure Cals (P:f6) (w:j6) (K:m6) (mg:Str->Option b8) (base:Heap) (c:Nat->Addr):Prop where
 state:U4 P w K mg base 8 "_law_state" ["_law_script","_law_k"] (kN K)
 take:U4 P w K mg base 8 "_law_take" ["_law_state_here","_law_many"] gW
 urn:U4 P w K mg base 8 "_law_urn_of" ["_law_state_here","_law_kinds"] ou
 rule:U4 P w K mg base 8 "_law_rule" ["_law_state_here","_law_kinds"] kQ
 ts:Z9 P w K mg base 8 "two_stands" ["one","other","rule","draws"] (mP c)
 tot:U4 P w K mg base 8 "_law_total" ["_law_some"] kO
 or':U4 P w K mg base 8 "_law_one_right" ["_law_one","_law_other","_law_rule_here"] mR
 gro:Z9 P w K mg base 8 "growth" ["kinds","rule"] fY
 ss:Z9 P w K mg base 8 "two_shares" ["one","other","rule","draws"] (yw c)
 by':U4 P w K mg base 8 "_law_by" ["_law_one","_law_other"] bt
 cut:U4 P w K mg base 8 "_law_fraction" ["_law_top","_law_bottom"] kR
 tr:U4 P w K mg base 8 "_law_twice_right" ["_law_one","_law_other","_law_rule_here"] mR
noncomputable def vw (K:m6):Sp:=fun vs H Q _=>∃(a:Addr) (ns:List Int),vs=[.ref a]/\eA K H a (ns.map V.int)/\ns.length<=63/\∀H',Q (.bl true) H'
noncomputable abbrev kZ:Stmt:=ef 54
theorem aQ:A2 ["_law_script","_law_k","_law_state_here","_law_kinds","_law_one","_law_other","_law_rule_here","_law_draws","_law_some","_law_grown","_law_due","_law_shares","_law_side","_law_kind","_law_parts"] ["_law_script"] (u0 kZ):=⟨rfl,rfl,rfl,by decide +kernel,rfl,by decide +kernel,by decide +kernel⟩
theorem DF {c:Nat->Addr} (F:bC K "law" "law" kZ f fd) (B:Bt mg) (B2:Bt2 mg) (C:Cals P w K mg base c):L3 P w K mg base dA 9 f fd ["_law_script"] (vw K):=by
 refine F.ok aQ (fun vs H Q E h=>?_) (fun cdv A outer s H vs Q E hr h=>?_)
 ·obtain ⟨a,ns,rfl,_⟩:=h
  rfl
 obtain ⟨a,scr,rfl,hS,h63,q⟩:=h
 refine ⟨_,(@m9 _ _ _ _ _ (bH E3 rfl (L0 rfl B.range (@b6 _ _ _ _ _ (A0 (xF rfl) rfl B.max boot_max (@b6 _ _ _ _ _ j9 (@b6 _ _ _ _ _ (A0 (xE rfl) rfl B.min boot_min (@b6 _ _ _ _ _ (A0 J6 rfl B.len J9 (@b6 _ _ _ _ _ (pv 0) d8 (by rfl))) (@b6 _ _ _ _ _ j9 d8 (by rfl)) (by rfl))) d8 (by rfl)) (by rfl))) d8 (by rfl))) (O0 (i:=1) aQ.nd rfl (t5 rfl))
  (@m9 _ _ _ _ _ (@G4 _ _ 2 _ _ _ _ aQ.nd rfl (t5 rfl) (w5 C.state hr rfl (@b6 _ _ _ _ _ (pv 0) (@b6 _ _ _ _ _ (pv 1) d8 (by rfl)) (by rfl))) (by rfl) (by first|exact .inl rfl|exact .inr rfl))
  (@m9 _ _ _ _ _ (@G4 _ _ 3 _ _ _ _ aQ.nd rfl (t5 rfl) (@D9 _ _ _ _ _ _ _ _ aR j9 (w5 C.take hr rfl (@b6 _ _ _ _ _ (pv 2) (@b6 _ _ _ _ _ (@G9 _ _ _ _ _ _ _ Z5 (@lu _ _ _ _ (@b6 _ _ _ _ _ j9 (@b6 _ _ _ _ _ j9 d8 (by rfl)) (by rfl))) (J4 jv rfl B.int CD (@b6 _ _ _ _ _ (cL rJ (pv 1) j9 (N4 _)) d8 (by rfl))) (fun _ _=>rfl)) d8 (by rfl)) (by rfl)))) (by rfl) (by first|exact .inl rfl|exact .inr rfl))
  (@m9 _ _ _ _ _ (lq (i:=4) (j:=5) rfl aQ.nd rfl rfl (by decide) rfl rfl (@b6 _ _ _ _ _ (w5 C.urn hr rfl (@b6 _ _ _ _ _ (pv 2) (@b6 _ _ _ _ _ (pv 3) d8 (by rfl)) (by rfl))) (@b6 _ _ _ _ _ (w5 C.urn hr rfl (@b6 _ _ _ _ _ (pv 2) (@b6 _ _ _ _ _ (pv 3) d8 (by rfl)) (by rfl))) d8 (by rfl)) (by rfl)) rfl)
  (@m9 _ _ _ _ _ (lq (i:=6) (j:=7) rfl aQ.nd rfl rfl (by decide) rfl rfl (@b6 _ _ _ _ _ (w5 C.rule hr rfl (@b6 _ _ _ _ _ (pv 2) (@b6 _ _ _ _ _ (pv 3) d8 (by rfl)) (by rfl))) (@b6 _ _ _ _ _ (w5 C.take hr rfl (@b6 _ _ _ _ _ (pv 2) (@b6 _ _ _ _ _ j9 d8 (by rfl)) (by rfl))) d8 (by rfl)) (by rfl)) rfl)
  (@m9 _ _ _ _ _ (@G4 _ _ 8 _ _ _ _ aQ.nd rfl (t5 rfl) (O6 C.ts hr rfl eU (@b6 _ _ _ _ _ (pv 4) (@b6 _ _ _ _ _ (pv 5) (@b6 _ _ _ _ _ (pv 6) (@b6 _ _ _ _ _ (pv 7) d8 (by rfl)) (by rfl)) (by rfl)) (by rfl))) (by rfl) (by first|exact .inl rfl|exact .inr rfl))
  (@m9 _ _ _ _ _ (T5 (PW.pt (Cp (@P7 _ _ _ _ _ _ _ _ (oZ hr.units) (w5 C.tot hr rfl (@b6 _ _ _ _ _ (F5 (N:=["_law_first","_law_second","_law_part"]) (ix:=[none,none,none]) (ifs:=[]) (tc:=M0) rfl (V2 (pv 8))
   (fun s H ex=>jS (K:=K) (n:=3) rfl rfl (v9 (Q5 (i:=0) (by decide +kernel) rfl (t5 rfl) (.inr rfl)) (v9 (Q5 (i:=1) (by decide +kernel) rfl (t5 rfl) (.inr rfl)) (v9 (Q5 (i:=2) (by decide +kernel) rfl (t5 rfl) (.inr rfl)) R5)))) (fun s H ex=>D8) (fun s H ex=>(pv 2)) rfl (by decide +kernel) (by rfl) (by rfl) (fun _=>rfl)) d8 (by rfl))) (@O5 _ _ _ _ _ (@b6 _ _ _ _ _ j9 (@b6 _ _ _ _ _ j9 d8 (by rfl)) (by rfl))) (N4 _)) (yL (cQ (bG (w5 C.or' hr rfl (@b6 _ _ _ _ _ (pv 4) (@b6 _ _ _ _ _ (pv 5) (@b6 _ _ _ _ _ (pv 6) d8 (by rfl)) (by rfl)) (by rfl)))))))) (@q5 _ _ _ (B8 eS)) J1)
  (@m9 _ _ _ _ _ (@G4 _ _ 9 _ _ _ _ aQ.nd rfl (t5 rfl) (O6 C.gro hr rfl eU (@b6 _ _ _ _ _ (pv 3) (@b6 _ _ _ _ _ (pv 6) d8 (by rfl)) (by rfl))) (by rfl) (by first|exact .inl rfl|exact .inr rfl))
  (@m9 _ _ _ _ _ (T5 (Dz (Bj (pv 9))) (@m9 _ _ _ _ _ (@G4 _ _ 10 _ _ _ _ aQ.nd rfl (bZ rfl) (@O5 _ _ _ _ _ (@b6 _ _ _ _ _ (@D9 _ _ _ _ _ _ _ _ aR (A0 (aE rfl) rfl B.sum fT (@b6 _ _ _ _ _ (pv 4) d8 (by rfl))) (@D9 _ _ _ _ _ _ _ _ dS (pv 9) (@D9 _ _ _ _ _ _ _ _ kf (pv 7) j9))) (@b6 _ _ _ _ _ (@D9 _ _ _ _ _ _ _ _ aR (A0 (aE rfl) rfl B.sum fT (@b6 _ _ _ _ _ (pv 5) d8 (by rfl))) (@D9 _ _ _ _ _ _ _ _ dS (pv 9) (@D9 _ _ _ _ _ _ _ _ ur (pv 7) (@D9 _ _ _ _ _ _ _ _ kf (pv 7) j9)))) d8 (by rfl)) (by rfl))) (by rfl) (by first|exact .inl rfl|exact .inr rfl))
  (@q5 _ _ _ (T5 (bG (A0 (iy rfl) rfl B2.any sI (@b6 _ _ _ _ _ (F5 (N:=["_law_first","_law_second","_law_part","_law_due"]) (ix:=[none,none,none,some 10]) (ifs:=[]) (tc:=M0) rfl (V2 (pv 8))
   (fun s H ex=>jS (K:=K) (n:=3) rfl rfl (v9 (Q5 (i:=0) (by decide +kernel) rfl (t5 rfl) (.inr rfl)) (v9 (Q5 (i:=1) (by decide +kernel) rfl (t5 rfl) (.inr rfl)) (v9 (Q5 (i:=2) (by decide +kernel) rfl (t5 rfl) (.inr rfl)) R5)))) (fun s H ex=>D8) (fun s H ex=>(cL (oZ hr.units) (@O5 _ _ _ _ _ (@b6 _ _ _ _ _ (A0 (AV (K:=K) rfl rfl) rfl B.sum fT (@b6 _ _ _ _ _ (pv 0) d8 (by rfl))) (@b6 _ _ _ _ _ (A0 (AV (K:=K) rfl rfl) rfl B.sum fT (@b6 _ _ _ _ _ (pv 1) d8 (by rfl))) d8 (by rfl)) (by rfl))) (pv 3) (N4 _))) rfl (by decide +kernel) (by rfl) (by rfl) (fun _=>rfl)) d8 (by rfl)))) (@q5 _ _ _ (B8 eS)) J1))) J1)
  (@m9 _ _ _ _ _ (@G4 _ _ 11 _ _ _ _ aQ.nd rfl (t5 rfl) (O6 C.ss hr rfl eU (@b6 _ _ _ _ _ (pv 4) (@b6 _ _ _ _ _ (pv 5) (@b6 _ _ _ _ _ (pv 6) (@b6 _ _ _ _ _ (pv 7) d8 (by rfl)) (by rfl)) (by rfl)) (by rfl))) (by rfl) (by first|exact .inl rfl|exact .inr rfl))
  (@m9 _ _ _ _ _ (bH E3 rfl (L0 rfl B.range (@b6 _ _ _ _ _ j9 d8 (by rfl))) (O0 (i:=12) aQ.nd rfl (bZ rfl))
  (@m9 _ _ _ _ _ (T5 (@P7 _ _ _ _ _ _ _ _ (oZ hr.units) (w5 C.tot hr rfl (@b6 _ _ _ _ _ (@G9 _ _ _ _ _ _ _ L5 (pv 11) (pv 12) (fun _ _=>rfl)) d8 (by rfl))) (@O5 _ _ _ _ _ (@b6 _ _ _ _ _ j9 (@b6 _ _ _ _ _ j9 d8 (by rfl)) (by rfl))) (N4 _)) (@q5 _ _ _ (B8 eS)) J1)
  (@q5 _ _ _ (bH E3 rfl (L0 rfl B.range (@b6 _ _ _ _ _ (pv 3) d8 (by rfl))) (O0 (i:=13) aQ.nd rfl (bZ rfl))
  (@m9 _ _ _ _ _ (cK (N:=["_law_row","_law_side","_law_kind"]) (ix:=[none,some 12,some 13]) (ifs:=[]) (tc:=M0) (i:=14) rfl aQ.nd rfl rfl  (V2 (pv 8))
   (fun s H ex=>Q5 (i:=0) (by decide +kernel) rfl (t5 rfl) (.inr rfl)) (fun s H ex=>D8) (fun s H ex=>(w5 C.by' hr rfl (@b6 _ _ _ _ _ (@G9 _ _ _ _ _ _ _ (EK (K:=K) rfl) (pv 0) j9 (fun _ _=>rfl)) (@b6 _ _ _ _ _ (w5 C.cut hr rfl (@b6 _ _ _ _ _ (@G9 _ _ _ _ _ _ _ (EK (K:=K) rfl) (@G9 _ _ _ _ _ _ _ (EK (K:=K) rfl) (pv 0) (pv 1) (fun _ _=>rfl)) (pv 2) (fun _ _=>rfl)) (@b6 _ _ _ _ _ (A0 (AV (K:=K) rfl rfl) rfl B.sum fT (@b6 _ _ _ _ _ (@G9 _ _ _ _ _ _ _ (EK (K:=K) rfl) (pv 0) (pv 1) (fun _ _=>rfl)) d8 (by rfl))) d8 (by rfl)) (by rfl))) d8 (by rfl)) (by rfl)))) rfl (by decide +kernel) (by rfl) (by rfl) (fun _=>rfl) (by rfl))
  (@q5 _ _ _ (T5 (@P7 _ _ _ _ _ _ _ _ (oZ hr.units) (w5 C.tot hr rfl (@b6 _ _ _ _ _ (pv 14) d8 (by rfl))) (@G9 _ _ _ _ _ _ _ L5 (@G9 _ _ _ _ _ _ _ L5 (pv 11) (pv 12) (fun _ _=>rfl)) (pv 13) (fun _ _=>rfl)) (N4 _)) (@q5 _ _ _ (B8 eS)) J1)))))))
  (@q5 _ _ _ (T5 (cQ (bG (w5 C.tr hr rfl (@b6 _ _ _ _ _ (pv 4) (@b6 _ _ _ _ _ (pv 5) (@b6 _ _ _ _ _ (pv 6) d8 (by rfl)) (by rfl)) (by rfl))))) (@q5 _ _ _ (B8 eS)) J1)))))))))))))
  (@q5 _ _ _ (B8 eS))),?_⟩
 refine ⟨_,rfl,a,_,rfl,.inl hS,_,_,rfl,_,_,rfl,_,rfl,?_,?_,?_⟩
 ·split <;> split <;> lia
 ·rw[b7];split <;> split <;> lia
 refine dn (lo:=0) (fun i σ H2=>eA K H2 a (scr.map V.int)/\∃o1 o2 o3 o4 o5 o6 o7 o8 o9 oa ob oc od oe,σ=[some (.ref a),o1,o2,o3,o4,o5,o6,o7,o8,o9,oa,ob,oc,od,oe])
  ⟨hS,none,none,none,none,none,none,none,none,none,none,none,none,none,none,rfl⟩ (fun i σ H2 hi h=>?_) (fun σ H2 h=>q H2)
 refine match h with|⟨hS2,o1,o2,o3,o4,o5,o6,o7,o8,o9,oa,ob,oc,od,oe,e_s⟩=>?_
 subst e_s
 have e0:(0:Int)+(i:Int)=(i:Int):=by lia
 rw[e0]
 refine ⟨_,rfl,_,rfl,a,scr,i,rfl,hS2,fun l x b hl hst=>?_⟩
 have s3:cj l b (v8 H2 l (.lst [.int x,.bl b])) (v8 H2 l (.lst [.int x,.bl b])):=cj.start i6 hst
 have hA:∀H',Kp l (v8 H2 l (.lst [.int x,.bl b])) H'->eA K H' a (scr.map V.int):=fun H' k=>by
  rcases hS2 with (h|⟨o,h⟩)|h
  ·exact .inl (.inl (k _ _ (u3 h hl) (j4.new hl _ _ h)))
  ·exact .inl (.inr ⟨o,k _ _ (u3 h hl) (j4.new hl _ _ h)⟩)
  ·exact .inr h
 show oj _ _ _ _ (v8 H2 l (.lst [.int x,.bl b]))
 generalize v8 H2 l (.lst [.int x,.bl b])=H3 at s3 hA
 clear hS2 hl hst
 refine ⟨_,rfl,(by show 2<=i8;decide),fun pl hpl=>⟨_,rfl,_,_,rfl,rfl,.inr ⟨_,rfl,?_⟩⟩⟩
 have g3:j4 H3 (v8 H3 pl (.lst [.int 4,.int 3])):=j4.new hpl
 have hpl3:v8 H3 pl (.lst [.int 4,.int 3]) pl=some (.lst [.int 4,.int 3]):=i6
 obtain ⟨m,hm1,hm4,hat⟩:∃m:Nat,1<=m/\m<=4/\An [V.int 4,V.int 3] (if decide ((0:Int)<(i:Int))=true then 1 else 0)=some (.int m):=by
  by_cases hi0:(0:Int)<(i:Int)
  ·rw[decide_eq_true hi0]
   exact ⟨3,by decide,by decide,rfl⟩
  ·rw[decide_eq_false hi0]
   exact ⟨4,by decide,by decide,rfl⟩
 refine ⟨pl,_,_,_,rfl,rfl,.inl (.inl hpl3),hat,?_⟩
 have s3b:=s3.same g3
 generalize v8 H3 pl (.lst [.int 4,.int 3])=H3b at g3 s3b
 obtain ⟨_,x3,hx3,ok3⟩:=id s3b
 refine ⟨l,m,x3,b,rfl,hx3,ok3,by lia,by lia,fun y x1 hy ok1=>⟨_,_,rfl,rfl,?_⟩⟩
 have en:(1:Int)+(y:Int)=((1+y:Nat):Int):=by lia
 try dsimp only
 rw[en]
 have n1:1<=1+y:=by lia
 have n4:1+y<=4:=by lia
 generalize 1+y=n at n1 n4
 have s4:=s3b.go ok1
 generalize v8 H3b l (.lst [.int x1,.bl b])=H4 at s4
 obtain ⟨_,x4,hx4,ok4⟩:=id s4
 refine ⟨_,rfl,_,rfl,l,n,x4,b,rfl,hx4,ok4,n1,n4,fun ua H5 us s5' hua hU=>?_⟩
 have s5:=s4.trans s5'
 have nua:=s5.neL hua
 obtain ⟨_,x5,hx5,ok5⟩:=id s5
 refine ⟨_,rfl,_,rfl,l,n,x5,b,rfl,hx5,ok5,n1,n4,fun wa H6 ws s6' hwa hW=>?_⟩
 have s6:=s5.trans s6'
 have nwa:=s6.neL hwa
 have hua6:=s6'.1 _ _ nua hua
 refine ⟨_,_,rfl,?_⟩
 try dsimp -proj only[T6]
 obtain ⟨_,x6,hx6,ok6⟩:=id s6
 refine ⟨_,rfl,_,rfl,l,n,x6,b,rfl,hx6,ok6,n1,n4,fun rv H7 rs s7' hrd hR=>?_⟩
 have s7:=s6.trans s7'
 have hua7:=s7'.1 _ _ nua hua6
 have hwa7:=s7'.1 _ _ nwa hwa
 obtain ⟨_,x7,hx7,ok7⟩:=id s7
 refine ⟨_,rfl,l,5,x7,b,rfl,hx7,ok7,by decide,by decide,fun dr x8 hdr ok8=>?_⟩
 have s8:=s7.go ok8
 have k8:Kp l H7 (v8 H7 l (.lst [.int x8,.bl b])):=Kp.at
 try dsimp -proj only
 generalize v8 H7 l (.lst [.int x8,.bl b])=H8 at s8 k8
 have hua8:=k8 _ _ nua hua7
 have hwa8:=k8 _ _ nwa hwa7
 have hrd8:=hrd.kp k8
 have k4:dr<=4:=by lia
 refine ⟨_,_,rfl,?_⟩
 try dsimp -proj only[T6]
 clear hua7 hua6 hua hwa hwa7 hrd s7' s6' s5' s7 s6 s5 s4 k8 s3b g3 hat hm1 hm4 hpl3 hpl
 have AS:∀(H':Hp),j4 H8 H'->Es l H' n us ws rs dr ua wa rv:=fun H' g=>⟨Dt.mkI nua (g _ _ hua8),hU,Dt.mkI nwa (g _ _ hwa8),hW,hrd8.kp (g.kp l),hR,n1,n4,k4⟩
 have FIN:∀H',j4 H8 H'->eA K H' a (scr.map V.int):=fun H' g=>hA _ (s8.1.trans (g.kp l))
 refine match mL hR n1 n4 hU hW k4 with|⟨w1,w2,w3,w4⟩=>?_
 refine ⟨_,rfl,_,rfl,_,rfl,_,rfl,.inr ⟨l,ua,wa,rv,n,dr,us,ws,rs,rfl,AS _ (j4.refl _),fun Ds as T H9 hDn g9 pT oT hD r3=>?_⟩⟩
 have hK:KU n (20+5*dr) T:=fun p hp=>w1 p (pT.mem_iff.mp hp)
 have hE:aF (LL ^ dr) (4 ^ (dr*dr)) T:=fun p hp=>w3 p (pT.mem_iff.mp hp)
 have hTl:T.length<128:=by rw[pT.length_eq];exact w4
 have hal:as.length=T.length:=(G3 r3).symm
 have h1:M5 T (fun _=>1)=1:=(jm pT).trans (AN hR n4 hU hW (by lia))
 have hN:LL ^ dr<=2 ^ 1200:=f9 (gE dr) (u6 (by decide) (by lia))
 have hB:4 ^ (dr*dr)<=2 ^ 32:=f9 (u6 (n:=4) (by decide) (show dr*dr<=4*4 from u4 k4 k4)) (by decide)
 refine ⟨_,rfl,Ds,rfl,⟨_,.of hD⟩,?_⟩
 refine dq (K:=K) (a:=Ds) (xs:=as.map V.ref) (sz (by rw[b7];lia)) (fun j zs Hj=>j4 H9 Hj/\j<=T.length/\fH Hj ((T.take j).map (·.2)) zs) ⟨j4.refl _,j5 _,trivial⟩ (fun j zs Hj h=>?_) (fun j zs Hj _ h=>.of (h.1 _ _ hD)) ⟨rfl,rfl,rfl⟩ (fun j zs Hj x hx h=>?_) (fun zs H10 h=>?_)
 ·rw[h.2.2.len,b7,m8]
  have:=h.2.1
  lia
 ·refine match h with|⟨gj,hj,hF⟩=>?_
  rw[m7,P0] at hx
  refine match hx with|⟨r,hr',e_x⟩=>?_
  subst e_x
  refine match jb r3 hr' with|⟨p,hp,ca,da,qa,h1,h2,h3,h4⟩=>?_
  have hjl:=(List.getElem?_eq_some_iff.mp hp).1
  refine ⟨r,.ref ca,.ref da,.ref qa,rfl,.of (gj _ _ h1),_,rfl,gj,hjl,?_⟩
  rw[t6,hp,j7]
  exact fH.snoc ⟨qa,rfl,gj _ _ h4⟩ hF
 refine match h with|⟨g10,_,hF⟩=>?_
 rw[b7,hal,u5] at hF
 intro pz hpz
 have gz:j4 H10 (v8 H10 pz (.lst zs)):=j4.new hpz
 have hpz':v8 H10 pz (.lst zs) pz=some (.lst zs):=i6
 have hF2:=hF.mono fun a xs e=>gz _ _ e
 have G11:=g10.trans gz
 try dsimp -proj only
 generalize v8 H10 pz (.lst zs)=H11 at hpz' hF2 G11
 clear gz hF g10 hpz
 have big:∀X:Nat,X<=2 ^ 39->LL ^ dr*X<=2 ^ 1239:=fun X hX=>by
  have:(2:Nat) ^ 1239=2 ^ 1200*2 ^ 39:=by rw[<- D5]
  rw[this];exact u4 hN hX
 refine .inl ⟨pz,zs,T.map (·.2),LL ^ dr,4 ^ (dr*dr),1239,rfl,hpz',hF2,fun x hx=>?_,bW dr,big _ ?_,f9 hN (u6 (by decide) (by decide)),by decide,fun r H12 g12 hr12=>?_⟩
 ·refine match List.mem_map.mp hx with|⟨p,hp,e⟩=>?_
  rw[<- e];exact hE p hp
 ·rw[b7]
  have:4 ^ (dr*dr)*T.length<=2 ^ 32*127:=u4 hB (by lia)
  have e:(2:Nat) ^ 39=2 ^ 32*127+2 ^ 32:=by decide
  rw[e];exact Nat.add_le_add this hB
 rw[<- AR,h1] at hr12
 refine ⟨(by show 2<=i8;decide),fun p1 hp1=>?_⟩
 have gp:j4 H12 (v8 H12 p1 (.tup [.int 1,.int 1])):=j4.new hp1
 refine pH (a:=[1,1]) (b:=[1,1]) (gp _ _ hr12) i6 ⟨_,rfl,?_⟩
 have G13:j4 H8 (v8 H12 p1 (.tup [.int 1,.int 1])):=((g9.trans G11).trans g12).trans gp
 have D13:=(G11.trans g12).trans gp
 try dsimp -proj only
 generalize v8 H12 p1 (.tup [.int 1,.int 1])=H13 at G13 D13
 clear gp hr12 hp1 g12 hF2 hpz' G11
 rw[decide_eq_true rfl]
 refine ak ?_
 refine ⟨_,rfl,_,rfl,_,rfl,l,ua,wa,rv,n,us,ws,rs,rfl,nua,nwa,G13 _ _ hua8,G13 _ _ hwa8,hrd8.kp (G13.kp l),hU,hW,hR,n1,n4,fun H14 g14=>⟨_,rfl,ak ?_⟩⟩
 refine ⟨_,rfl,_,rfl,l,rv,n,rs,rfl,hrd8.kp ((G13.trans g14).kp l),hR,n1,n4,fun H15 g15=>?_⟩
 have G15:=(G13.trans g14).trans g15
 have D15:=(D13.trans g14).trans g15
 have hD15:=D15 _ _ hD
 have r15:R3 n H15 T as:=R3.mono r3 fun a zs e=>D15 _ _ e
 clear D15 D13 G13 g14 g15 hD r3
 generalize hgv:gV (jV rs)=gv
 apply Gy (S:=fun σ H'=>j4 H15 H'/\∃qa,σ=[some (.ref a),some (.int i),some (.ref l),some (.int n),some (.ref ua),some (.ref wa),some rv,some (.int dr),some (.ref Ds),some gv,qa,ob,oc,od,oe])
 ·intro cu
  refine ⟨_,rfl,_,rfl,?_⟩
  rcases Option.eq_none_or_eq_some (jV rs) with hg|⟨g,hg⟩
  ·exact Gz (by rw[<- hgv,hg];rfl) (cu _ H15 ⟨j4.refl _,oa,rfl⟩)
  ·have eg:gv=V.int g:=by rw[<- hgv,hg];rfl
   subst eg
   rw[decide_eq_false (show ¬ V.int g=V.non from fun z=>by cases z)]
   refine bB ?_
   have hgb:=BF hR n1 hg
   have hgs:=zK hg
   refine ⟨_,rfl,ua,us,rfl,.inr (.of (G15 _ _ hua8)),_,rfl,_,rfl,_,_,rfl,rfl,⟨by decide,by decide⟩,_,_,rfl,rfl,.inl ⟨by lia,by lia⟩,_,_,rfl,rfl,?_⟩
   refine ⟨_,rfl,wa,ws,rfl,.inr (.of (G15 _ _ hwa8)),_,rfl,_,rfl,_,rfl,_,_,rfl,rfl,⟨by decide,by decide⟩,_,_,rfl,rfl,_,_,rfl,rfl,.inl ⟨by lia,by lia⟩,_,_,rfl,rfl,?_⟩
   refine ⟨(by show 2<=i8;decide),fun pd hpd=>?_⟩
   have gd:j4 H15 (v8 H15 pd (.tup [.int (us.sum+g*((dr:Int) / 2)),.int (ws.sum+g*((dr:Int) - (dr:Int) / 2))])):=j4.new hpd
   have hpd':v8 H15 pd (.tup [.int (us.sum+g*((dr:Int) / 2)),.int (ws.sum+g*((dr:Int) - (dr:Int) / 2))]) pd=some (.tup [.int (us.sum+g*((dr:Int) / 2)),.int (ws.sum+g*((dr:Int) - (dr:Int) / 2))]):=i6
   try dsimp -proj only[T6]
   generalize v8 H15 pd (.tup [.int (us.sum+g*((dr:Int) / 2)),.int (ws.sum+g*((dr:Int) - (dr:Int) / 2))])=Hd at gd hpd'
   refine ⟨_,rfl,Ds,rfl,⟨_,.of (gd _ _ hD15)⟩,?_⟩
   refine dq (K:=K) (a:=Ds) (xs:=as.map V.ref) (sz (by rw[b7];lia)) (fun j zs Hj=>j4 Hd Hj/\j<=T.length/\zs=((T.take j).map fun _=>V.bl false)) ⟨j4.refl _,j5 _,rfl⟩ (fun j zs Hj h=>?_) (fun j zs Hj _ h=>.of (h.1 _ _ (gd _ _ hD15))) ⟨rfl,rfl,rfl⟩ (fun j zs Hj x hx h=>?_) (fun zs Hk h=>?_)
   ·obtain ⟨_,hj,rfl⟩:=h
    rw[b7,m8];lia
   ·refine match h with|⟨gj,hj,e_z⟩=>?_
    subst e_z
    rw[m7,P0] at hx
    refine match hx with|⟨r,hr',e_x⟩=>?_
    subst e_x
    refine match jb r15 hr' with|⟨p,hp,ca,da,qa,h1,h2,h3,h4⟩=>?_
    have hjl:=(List.getElem?_eq_some_iff.mp hp).1
    have gj':=gd.trans gj
    refine match CN hR n1 n4 hU hW hgs k4 (pT.mem_iff.mp (t7 hp)) with|⟨t1,t2⟩=>?_
    have c1:((dr / 2:Nat):Int)=(dr:Int) / 2:=by lia
    have c2:((dr - dr / 2:Nat):Int)=(dr:Int) - (dr:Int) / 2:=by lia
    rw[c1] at t1
    rw[c2] at t2
    refine ⟨r,.ref ca,.ref da,.ref qa,rfl,.of (gj' _ _ h1),_,rfl,ca,p.1.take n,rfl,.inr (.of (gj' _ _ h2)),_,rfl,da,p.1.drop n,rfl,.inr (.of (gj' _ _ h3)),(by show 2<=i8;decide),fun pt hpt=>?_⟩
    have gt:j4 Hj (v8 Hj pt (.tup [.int (p.1.take n).sum,.int (p.1.drop n).sum])):=j4.new hpt
    refine ⟨_,rfl,pH (a:=[(p.1.take n).sum,(p.1.drop n).sum]) (b:=[us.sum+g*((dr:Int) / 2),ws.sum+g*((dr:Int) - (dr:Int) / 2)]) i6 (gt _ _ (gj _ _ hpd')) ⟨gj.trans gt,hjl,?_⟩⟩
    rw[t6,hp,j7,t1,t2,decide_eq_true rfl]
    rfl
   refine match h with|⟨gk,_,e_z⟩=>?_
   subst e_z
   rw[b7,hal,u5]
   intro pz hpz
   have gz:j4 Hk (v8 Hk pz (.lst (T.map fun _=>V.bl false))):=j4.new hpz
   refine ⟨pz,_,rfl,.inl (.of i6),?_,_,rfl,?_⟩
   ·rw[N9,U2];intro p _;rfl
   rw[show (T.map fun _=>V.bl false).any kK=false by rw[List.any_map,AG];intro p _;exact n9]
   exact ak (cu _ _ ⟨(gd.trans gk).trans gz,_,rfl⟩)
 rintro σ H16 ⟨g16,qa,rfl⟩
 have G16:=G15.trans g16
 have hD16:=g16 _ _ hD15
 have r16:R3 n H16 T as:=R3.mono r15 fun a zs e=>g16 _ _ e
 clear g16 hD15 r15 G15
 refine ⟨_,rfl,_,rfl,_,rfl,_,rfl,.inr ⟨l,ua,wa,rv,n,dr,us,ws,rs,rfl,AS _ G16,fun ps T2 H17 g17 pT2 oT2 hSs=>?_⟩⟩
 have eT:T2=T:=dR oT2 oT (by
  unfold bI at w2 ⊢
  exact (pT2.map _).nodup_iff.mpr w2) (pT2.trans pT.symm)
 subst eT
 have G17:=G16.trans g17
 have hD17:=g17 _ _ hD16
 have r17:R3 n H17 T2 as:=R3.mono r16 fun a zs e=>g17 _ _ e
 clear g17 hD16 r16 G16 pT2 oT2
 refine match hSs with|⟨x1,y1,xs1,ys1,hps,v1,v2,v3,v4⟩=>?_
 refine ⟨2,rfl,by decide,by decide,?_⟩
 refine dn (lo:=0) (n:=2) (fun j σ Hj=>j4 H17 Hj/\∃pc pd pe,σ=[some (.ref a),some (.int i),some (.ref l),some (.int n),some (.ref ua),some (.ref wa),some rv,some (.int dr),some (.ref Ds),some gv,qa,some (.ref ps),pc,pd,pe])
  ⟨j4.refl _,oc,od,oe,rfl⟩ (fun j σ Hj hj h=>?_) (fun σ H18 h=>?_)
 ·refine match h with|⟨gj,pc,pd,pe,e_s⟩=>?_
  subst e_s
  have e0:(0:Int)+(j:Int)=(j:Int):=by lia
  rw[e0]
  refine match AX hj hK v1 v2 v3 v4 with|⟨g,sa,zs1,hat,hsa,hFs,hUg,hrow⟩=>?_
  have bnd:∀k,Vq (LL*LL ^ dr) (2 ^ 40) (mQ g T2 k):=fun k=>(Gx hUg n4 (by lia) hE k).mono (by
   rw[gP]
   exact f9 (u4 hB (show T2.length<=128 by lia)) (by decide))
  have hN2:LL*LL ^ dr<=2 ^ 1500:=by
   have:(2:Nat) ^ 1500=2 ^ 300*2 ^ 1200:=by rw[<- D5]
   rw[this];exact u4 sQ hN
  have hN0:0<LL*LL ^ dr:=aK lP (bW dr)
  have big2:∀X:Nat,X<=2 ^ 50->LL*LL ^ dr*X<=2 ^ 1550:=fun X hX=>by
   have:(2:Nat) ^ 1550=2 ^ 1500*2 ^ 50:=by rw[<- D5]
   rw[this];exact u4 hN2 hX
  have hN3:LL*LL ^ dr<=2 ^ 1550:=f9 hN2 (u6 (by decide) (by decide))
  refine ⟨_,rfl,_,rfl,ps,_,_,_,rfl,rfl,.of (gj _ _ hps),hat,?_⟩
  refine .inr ⟨sa,zs1,uG g T2 n,LL*LL ^ dr,2 ^ 40,1550,rfl,gj _ _ hsa,hFs.mono fun a xs e=>gj _ _ e,fun x hx=>?_,hN0,big2 _ ?_,hN3,by decide,fun r Hk gk hrk=>?_⟩
  ·refine match List.mem_map.mp hx with|⟨k,_,e⟩=>?_
   rw[<- e];exact bnd k
  ·rw[ik]
   have:2 ^ 40*n<=2 ^ 40*4:=B0 _ n4
   have e:(2:Nat) ^ 50=2 ^ 40*1024:=by decide
   rw[e];lia
  have one:P9 (uG g T2 n)=1:=tV hUg h1
  rw[one] at hrk
  refine ⟨(by show 2<=i8;decide),fun p1 hp1=>?_⟩
  have gp:j4 Hk (v8 Hk p1 (.tup [.int 1,.int 1])):=j4.new hp1
  refine pH (a:=[1,1]) (b:=[1,1]) (gp _ _ hrk) i6 ⟨_,rfl,?_⟩
  have Gm:j4 H17 (v8 Hk p1 (.tup [.int 1,.int 1])):=(gj.trans gk).trans gp
  try dsimp -proj only
  generalize v8 Hk p1 (.tup [.int 1,.int 1])=Hm at Gm
  clear gp hrk hp1 gk
  rw[decide_eq_true rfl]
  refine ak ?_
  refine ⟨_,rfl,(n:Int),rfl,by lia,by lia,?_⟩
  refine dn (lo:=0) (n:=n) (fun k σ Hj=>j4 H17 Hj/\∃pd pe,σ=[some (.ref a),some (.int i),some (.ref l),some (.int n),some (.ref ua),some (.ref wa),some rv,some (.int dr),some (.ref Ds),some gv,qa,some (.ref ps),some (.int j),pd,pe])
   ⟨Gm,pd,pe,rfl⟩ (fun k σ Hn hk h=>?_) (fun σ Hn h=>?_)
  ·refine match h with|⟨gn,pd,pe,e_s⟩=>?_
   subst e_s
   have e0:(0:Int)+(k:Int)=(k:Int):=by lia
   rw[e0]
   refine ⟨_,rfl,Ds,rfl,⟨_,.of (gn _ _ hD17)⟩,?_⟩
   refine iz (K:=K) (a:=Ds) (xs:=as.map V.ref) (sz (by rw[b7];lia)) (fun m zs Ho=>j4 Hn Ho/\m<=T2.length/\fH Ho ((T2.take m).map fun p=>p.2*Mt.Q0 (g p.1) k) zs) ⟨j4.refl _,j5 _,trivial⟩ (fun m zs Ho h=>?_) (fun m zs Ho _ h=>.of (h.1 _ _ (gn _ _ hD17))) rfl (fun m zs Ho x hx h=>?_) (fun zs Ho h=>?_)
   ·rw[h.2.2.len,b7,m8]
    have:=h.2.1
    lia
   ·refine match h with|⟨go,hm,hF⟩=>?_
    rw[m7,P0] at hx
    refine match hx with|⟨r,hr',e_x⟩=>?_
    subst e_x
    refine match jb r17 hr' with|⟨p,hp,ca,da,qa,h1,h2,h3,h4⟩=>?_
    have hml:=(List.getElem?_eq_some_iff.mp hp).1
    have G':=gn.trans go
    have hpu:=hUg p (t7 hp)
    have hv:=hE p (t7 hp)
    refine match hrow Ho p ca da (.ref qa) (G' _ _ h2) (G' _ _ h3) with|⟨ra,hra,hra2⟩=>?_
    have hg:=hpu.getD k
    have hsum:(g p.1).sum<=200:=fq hpu n4 (by lia)
    have hpos:=hpu.pos
    have hlog:(g p.1).sum.natAbs.log2<9000:=by
     generalize (g p.1).sum=z at hsum hpos
     exact zx (n:=60) hpos (by lia) (by decide)
    have bdp:Bd 1240 p.2:=hv.bd (bW dr) (by
     have:(2:Nat) ^ 1240=2 ^ 1200*2 ^ 40:=by rw[<- D5]
     rw[this];exact u4 hN (f9 hB (by decide))) (f9 hN (u6 (by decide) (by decide)))
    refine ⟨_,rfl,r,_,_,_,rfl,rfl,.of (G' _ _ h1),C6 (j:=2) rfl,?_⟩
    refine ⟨_,rfl,_,rfl,r,_,_,_,rfl,rfl,.of (G' _ _ h1),hra,_,rfl,ra,_,_,_,rfl,rfl,.of hra2,qo (by rw[hpu.len];exact hk),?_⟩
    refine ⟨_,rfl,_,rfl,r,_,_,_,rfl,rfl,.of (G' _ _ h1),hra,ra,g p.1,rfl,.inr (.of hra2),?_⟩
    refine ⟨_,_,rfl,hg.1,hpu.pos,hlog,fun p5 Ha ga hp5=>?_⟩
    refine ⟨qa,p5,p.2,Mt.Q0 (g p.1) k,1240,12,rfl,ga _ _ (G' _ _ h4),hp5,Rat.num_nonneg.mpr hv.nn,Rat.num_nonneg.mpr (qX hpu k),bdp,qY hpu n4 (by lia) k,by decide,fun p6 Hb gb hp6=>⟨go.trans (ga.trans gb),hml,?_⟩⟩
    rw[t6,hp,j7]
    exact fH.snoc ⟨p6,rfl,hp6⟩ (hF.mono fun a xs e=>gb _ _ (ga _ _ e))
   refine match h with|⟨go,_,hF⟩=>?_
   rw[b7,hal,u5] at hF
   intro pz hpz
   have em:(T2.map fun p=>p.2*Mt.Q0 (g p.1) k)=T2.map fun p=>Mt.Q0 (g p.1) k*p.2:=P1 fun p _=>Rat.mul_comm _ _
   rw[em] at hF
   have gz:j4 Ho (v8 Ho pz (.lst zs)):=j4.new hpz
   have hpz':v8 Ho pz (.lst zs) pz=some (.lst zs):=i6
   have hF2:=hF.mono fun a xs e=>gz _ _ e
   have Gq:=(gn.trans go).trans gz
   try dsimp -proj only[T6]
   generalize v8 Ho pz (.lst zs)=Hq at hpz' hF2 Gq
   refine ⟨_,rfl,.inl ⟨pz,zs,_,LL*LL ^ dr,1*4 ^ (dr*dr),1550,rfl,hpz',hF2,fun x hx=>?_,hN0,big2 _ ?_,hN3,by decide,fun r Hr gr hrr=>?_⟩⟩
   ·refine match List.mem_map.mp hx with|⟨p,hp,e⟩=>?_
    rw[<- e];exact (kT (hUg p hp) n4 (by lia) k).mul (hE p hp)
   ·rw[b7,gP]
    have:4 ^ (dr*dr)*T2.length<=2 ^ 32*127:=u4 hB (by lia)
    have e:(2:Nat) ^ 50=2 ^ 32*262144:=by decide
    rw[e];lia
   have gR:=Gq.trans gr
   have hrr:Hr r=some (.tup ((fr (mQ g T2 k)).map V.int)):=hrr
   refine match (hFs.mono fun a xs e=>gR _ _ e).get (d0 (show k<zs1.length by rw[hFs.len,ik];exact hk)) with|⟨x,ex,q1,eq1,hq1⟩=>?_
   have ex':x=mQ g T2 k:=by
    unfold uG at ex
    rw[m7,iJ hk] at ex
    injection ex with ex;exact ex.symm
   subst ex'
   refine ⟨_,rfl,_,rfl,ps,_,_,_,rfl,rfl,.of (gR _ _ hps),hat,_,rfl,sa,_,_,_,rfl,rfl,.of (gR _ _ hsa),C6 (d0 (show k<zs1.length by rw[hFs.len,ik];exact hk)),?_⟩
   rw[eq1]
   refine pH hrr hq1 ⟨_,rfl,?_⟩
   rw[decide_eq_true rfl]
   exact ak ⟨gR,_,_,rfl⟩
  ·refine match h with|⟨gn,pd,pe,e_s⟩=>?_
   subst e_s
   exact ⟨gn,_,_,_,rfl⟩
 refine match h with|⟨g18,pc,pd,pe,e_s⟩=>?_
 subst e_s
 have G18:=G17.trans g18
 refine ⟨_,rfl,_,rfl,_,rfl,l,ua,wa,rv,n,us,ws,rs,rfl,nua,nwa,G18 _ _ hua8,G18 _ _ hwa8,hrd8.kp (G18.kp l),hU,hW,hR,n1,n4,fun H19 g19=>⟨_,rfl,ak ?_⟩⟩
 exact ⟨FIN _ (G18.trans g19),_,_,_,_,_,_,_,_,_,_,_,_,_,_,rfl⟩
end
end G
set_option maxHeartbeats 4000000
namespace G
open PySem PySem.Spec PyProof.Rows L2 Mt
noncomputable def du (K:m6) (x:Str) (st:Stmt):Prop:=∃(f:Addr) (oc:b8) (od:Option Addr) (kV doc pm:b8) (an:Option Addr) (cdv ct:b8) (sl:Array (Option b8)),
 P2 K r9 x=some (some (.ref f))/\K.lookup f=some ⟨oc,od,.func (fU x x (dU st) (ba st) (u0 st) .none kV doc pm an cdv ct),sl⟩/\mi K cdv x=true/\dB K (.ref f)=true
variable {K:m6}{x:Str}{st:Stmt}
theorem F2 {f:Addr}{oc:b8}{od:Option Addr}{kV doc pm:b8}{an:Option Addr}{cdv ct:b8}{sl:Array (Option b8)}
  (a:P2 K r9 x=some (some (.ref f))) (l:K.lookup f=some ⟨oc,od,.func (fU x x (dU st) (ba st) (u0 st) .none kV doc pm an cdv ct),sl⟩) (c:mi K cdv x=true) (k:dB K (.ref f)=true):du K x st :=
 ⟨f,oc,od,kV,doc,pm,an,cdv,ct,sl,a,l,c,k⟩
variable {w:j6}{mg:Str->Option b8}{h:Heap}
theorem M6 {P:f6}{base:Heap}{ps:List Str}{k:Nat}{sp:Sp} (X:K.In h) (G:h.Ns r9 mg) (H:du K x st)
  (hb:∀(f:Addr) (fd:A7),bC K x x st f fd->iB K fd ps []) (ok:∀(f:Addr) (fd:A7),bC K x x st f fd->L3 P w K mg base dA k f fd ps sp):U4 P w K mg base k x ps sp:=by
 obtain ⟨f,oc,od,kV,doc,pm,an,cdv,ct,sl,a,l,c,kp⟩:=H
 have F:=uQ (st:=st) l c kp
 exact ⟨f,_,cB X G a,kp,hb _ _ F,ok _ _ F⟩
theorem bg {P:f6}{base:Heap}{ps:List Str}{k:Nat}{sp:Sp} (X:K.In h) (G:h.Ns r9 mg) (H:du K x st)
  (hb:∀(f:Addr) (fd:A7),bC K x x st f fd->iB K fd ps []) (ok:∀(f:Addr) (fd:A7),bC K x x st f fd->L3 P w K mg base (jY P w) k f fd ps sp):Z9 P w K mg base k x ps sp:=by
 obtain ⟨f,oc,od,kV,doc,pm,an,cdv,ct,sl,a,l,c,kp⟩:=H
 have F:=uQ (st:=st) l c kp
 exact ⟨f,_,cB X G a,kp,hb _ _ F,ok _ _ F⟩
noncomputable def zN (K:m6):List Addr->Bool
 | []=>true
 | C::cs=>Ew K C vE "ValueError.__new__"&&zN K cs
theorem sh {K:m6}:∀{cs:List Addr}{i:Nat},zN K cs=true->i<cs.length->Ew K (cs.getD i 0) vE "ValueError.__new__"=true
 | C::cs,0,h,_=>by
  unfold zN at h
  rw[u7] at h
  exact h.1
 | C::cs,i+1,h,hi=>by
  unfold zN at h
  rw[u7] at h
  have:=sh (cs:=cs) (i:=i) h.2 (by simpa using hi)
  simpa using this
theorem BI {a0 a1 a2 a5 a8 B:Addr} (X:K.In h) (G:h.Ns r9 mg)
  (e0:P2 K r9 "NoUrn"=some (some (.ref a0))) (e1:P2 K r9 "NoRule"=some (some (.ref a1))) (e2:P2 K r9 "NoKind"=some (some (.ref a2))) (e5:P2 K r9 "NoNumber"=some (some (.ref a5))) (e8:P2 K r9 "NotAlike"=some (some (.ref a8)))
  (hX:zN K [a0,a1,a2,a0,a0,a5,a0,a0,a8,a0]=true):sR K mg (fun i=>[a0,a1,a2,a0,a0,a5,a0,a0,a8,a0].getD i 0) B :=
 ⟨cB X G e0,cB X G e1,cB X G e2,cB X G e5,cB X G e8,fun i hi=>sh hX hi⟩
theorem Ef {l:Fg}{fa Bs:Addr}{c:Nat->Addr} (X:K.In h) (G:h.Ns r9 mg) (hfa:mg "law"=some (.ref fa)) (R:sR K mg c Bs)
  (h1:du K "is_number" eP) (h2:du K "is_whole" gi) (h3:du K "are_wholes" dP) (h4:du K "need_number" cP) (h5:du K "is_urn_up_to" cq) (h6:du K "is_urn" lg) (h7:du K "is_rule" iY) (h8:du K "need_urn" gh) (h9:du K "need_rule" eM) (h10:du K "greatest_divisor" Dq) (h11:du K "fraction" gm) (h12:du K "times" oG) (h13:du K "plus" ud) (h14:du K "put_in" kX) (h15:du K "own_urn" iX) (h16:du K "_law_cell_at" iZ) (h17:du K "_law_state" oH) (h18:du K "_law_take" uc) (h19:du K "_law_urn_of" ue) (h20:du K "_law_rule" oJ) (h21:du K "_law_fraction" yE) (h22:du K "_law_plus" oK) (h23:du K "_law_by" Dr) (h24:du K "need_two" Dn) (h25:du K "share" oI) (h26:du K "next_chances_of_two" yD) (h27:du K "two_stands" Di) (h28:du K "total" oE) (h29:du K "mean_share" Dp) (h30:du K "two_shares" Dl) (h31:du K "need_kind" eO) (h32:du K "growth_of" eQ) (h33:du K "growth" lh) (h34:du K "chance" lj) (h35:du K "_law_total" kY) (h36:du K "_law_one_right" Dm) (h37:du K "_law_twice_right" Dj)
  (hlaw:du K "law" kZ)
  (z1:P2 K r9 "isinstance"=some none) (z2:P2 K r9 "bool"=some none) (z3:P2 K r9 "int"=some none) (z4:P2 K r9 "tuple"=some none) (z5:P2 K r9 "list"=some none) (z6:P2 K r9 "all"=some none) (z7:P2 K r9 "sum"=some none) (z8:P2 K r9 "len"=some none) (z9:P2 K r9 "range"=some none) (z10:P2 K r9 "max"=some none) (z11:P2 K r9 "min"=some none) (z12:P2 K r9 "abs"=some none) (z13:P2 K r9 "zip"=some none) (z14:P2 K r9 "any"=some none) (z15:P2 K r9 "enumerate"=some none) (z16:P2 K r9 "sorted"=some none)
  {t1:Tok} (m1:P2 K r9 "MOST_KINDS"=some (some (.int 4 t1))) {t2:Tok} (m2:P2 K r9 "MOST_BALLS"=some (some (.int 20 t2))) {t3:Tok} (m3:P2 K r9 "MOST_PUT_IN"=some (some (.int 5 t3))) {t4:Tok} (m4:P2 K r9 "MOST_TWO_DRAWS"=some (some (.int 4 t4))):
  ∃fd:A7,(∀(s:b9) (v:b8),og s fd ⟨[v],[]⟩ [("_law_script",v)])/\∀base:Heap,K.In base->base.Ns r9 mg->L3 l.prog w K mg base dA 9 fa fd ["_law_script"] (vw K):=by
 obtain ⟨f,oc,od,kV,doc,pm,an,cdv,ct,sl,a,lk,c',kp⟩:=hlaw
 have e:=hfa.symm.trans (cB X G a)
 cases e
 have F:=uQ (st:=kZ) lk c' kp
 have B:Bt mg:=⟨G1 X G z1,G1 X G z2,G1 X G z3,G1 X G z4,G1 X G z5,G1 X G z6,G1 X G z7,G1 X G z8,G1 X G z9,G1 X G z10,G1 X G z11,G1 X G z12,G1 X G z13⟩
 have B2:Bt2 mg:=⟨G1 X G z14⟩
 have B3:GX mg:=⟨G1 X G z15,G1 X G z16⟩
 have C:Ct mg:=⟨⟨_,cB X G m1⟩,⟨_,cB X G m2⟩,⟨_,cB X G m3⟩⟩
 have C2:CtW mg:=⟨⟨_,cB X G m4⟩⟩
 refine ⟨fU "law" "law" (dU kZ) (ba kZ) (u0 kZ) .none kV doc pm an cdv ct,fun s v=>.of_eq rfl,fun base _ _=>?_⟩
 have c_is_number:U4 l.prog w K mg base 0 "is_number" ["thing"] dI:=M6 X G h1 (fun f fd F=>F.binds (ps:=["thing"]) fun _ _ _ _ _ _ us hl=>match us,hl with | [_],_=>rfl) (fun f fd F=>pC F B)
 have c_is_whole:U4 l.prog w K mg base 1 "is_whole" ["thing","low","high"] bu:=M6 X G h2 (fun f fd F=>F.binds (ps:=["thing","low","high"]) fun _ _ _ _ _ _ us hl=>match us,hl with | [_,_,_],_=>rfl) (fun f fd F=>rM F c_is_number)
 have c_are_wholes:U4 l.prog w K mg base 2 "are_wholes" ["thing","low","high"] aX:=M6 X G h3 (fun f fd F=>F.binds (ps:=["thing","low","high"]) fun _ _ _ _ _ _ us hl=>match us,hl with | [_,_,_],_=>rfl) (fun f fd F=>mB F B c_is_whole)
 have c_need_number:Z9 l.prog w K mg base 2 "need_number" ["thing","low","high"] (az c):=bg X G h4 (fun f fd F=>F.binds (ps:=["thing","low","high"]) fun _ _ _ _ _ _ us hl=>match us,hl with | [_,_,_],_=>rfl) (fun f fd F=>lx F R c_is_whole)
 have c_is_urn_up_to:U4 l.prog w K mg base 3 "is_urn_up_to" ["thing","most"] bF:=M6 X G h5 (fun f fd F=>F.binds (ps:=["thing","most"]) fun _ _ _ _ _ _ us hl=>match us,hl with | [_,_],_=>rfl) (fun f fd F=>jT F B C c_are_wholes)
 have c_is_urn:U4 l.prog w K mg base 4 "is_urn" ["thing"] ft:=M6 X G h6 (fun f fd F=>F.binds (ps:=["thing"]) fun _ _ _ _ _ _ us hl=>match us,hl with | [_],_=>rfl) (fun f fd F=>xl F C c_is_urn_up_to)
 have c_is_rule:Z9 l.prog w K mg base 3 "is_rule" ["kinds","thing"] (fX c):=bg X G h7 (fun f fd F=>F.binds (ps:=["kinds","thing"]) fun _ _ _ _ _ _ us hl=>match us,hl with | [_,_],_=>rfl) (fun f fd F=>uw F B C c_are_wholes c_need_number)
 have c_need_urn:Z9 l.prog w K mg base 5 "need_urn" ["thing"] (cI c):=bg X G h8 (fun f fd F=>F.binds (ps:=["thing"]) fun _ _ _ _ _ _ us hl=>match us,hl with | [_],_=>rfl) (fun f fd F=>rK F R c_is_urn)
 have c_need_rule:Z9 l.prog w K mg base 4 "need_rule" ["kinds","thing"] (bR c):=bg X G h9 (fun f fd F=>F.binds (ps:=["kinds","thing"]) fun _ _ _ _ _ _ us hl=>match us,hl with | [_,_],_=>rfl) (fun f fd F=>pA F R c_is_rule)
 have c_greatest_divisor:U4 l.prog w K mg base 1 "greatest_divisor" ["one","other"] yz:=M6 X G h10 (fun f fd F=>F.binds (ps:=["one","other"]) fun _ _ _ _ _ _ us hl=>match us,hl with | [_,_],_=>rfl) (fun f fd F=>Gu F B)
 have c_fraction:U4 l.prog w K mg base 2 "fraction" ["top","bottom"] bw:=M6 X G h11 (fun f fd F=>F.binds (ps:=["top","bottom"]) fun _ _ _ _ _ _ us hl=>match us,hl with | [_,_],_=>rfl) (fun f fd F=>rN F c_greatest_divisor)
 have c_times:U4 l.prog w K mg base 3 "times" ["one","other"] bt:=M6 X G h12 (fun f fd F=>F.binds (ps:=["one","other"]) fun _ _ _ _ _ _ us hl=>match us,hl with | [_,_],_=>rfl) (fun f fd F=>zg F c_fraction)
 have c_plus:U4 l.prog w K mg base 3 "plus" ["one","other"] aw:=M6 X G h13 (fun f fd F=>F.binds (ps:=["one","other"]) fun _ _ _ _ _ _ us hl=>match us,hl with | [_,_],_=>rfl) (fun f fd F=>Bu F c_fraction)
 have c_put_in:U4 l.prog w K mg base 1 "put_in" ["urn","rule","kind"] iV:=M6 X G h14 (fun f fd F=>F.binds (ps:=["urn","rule","kind"]) fun _ _ _ _ _ _ us hl=>match us,hl with | [_,_,_],_=>rfl) (fun f fd F=>xk F B)
 have c_own_urn:U4 l.prog w K mg base 1 "own_urn" ["urn"] fW:=M6 X G h15 (fun f fd F=>F.binds (ps:=["urn"]) fun _ _ _ _ _ _ us hl=>match us,hl with | [_],_=>rfl) (fun f fd F=>uv F B)
 have c__law_cell_at:U4 l.prog w K mg base 1 "_law_cell_at" ["_law_script","_law_k"] (fZ K):=M6 X G h16 (fun f fd F=>F.binds (ps:=["_law_script","_law_k"]) fun _ _ _ _ _ _ us hl=>match us,hl with | [_,_],_=>rfl) (fun f fd F=>ux F B)
 have c__law_state:U4 l.prog w K mg base 2 "_law_state" ["_law_script","_law_k"] (kN K):=M6 X G h17 (fun f fd F=>F.binds (ps:=["_law_script","_law_k"]) fun _ _ _ _ _ _ us hl=>match us,hl with | [_,_],_=>rfl) (fun f fd F=>zh F c__law_cell_at)
 have c__law_take:U4 l.prog w K mg base 1 "_law_take" ["_law_state_here","_law_many"] gW:=M6 X G h18 (fun f fd F=>F.binds (ps:=["_law_state_here","_law_many"]) fun _ _ _ _ _ _ us hl=>match us,hl with | [_,_],_=>rfl) (fun f fd F=>Br F )
 have c__law_urn_of:U4 l.prog w K mg base 2 "_law_urn_of" ["_law_state_here","_law_kinds"] ou:=M6 X G h19 (fun f fd F=>F.binds (ps:=["_law_state_here","_law_kinds"]) fun _ _ _ _ _ _ us hl=>match us,hl with | [_,_],_=>rfl) (fun f fd F=>Bv F B B2 c__law_take)
 have c__law_rule:U4 l.prog w K mg base 2 "_law_rule" ["_law_state_here","_law_kinds"] kQ:=M6 X G h20 (fun f fd F=>F.binds (ps:=["_law_state_here","_law_kinds"]) fun _ _ _ _ _ _ us hl=>match us,hl with | [_,_],_=>rfl) (fun f fd F=>zk F B c__law_take)
 have c__law_fraction:U4 l.prog w K mg base 1 "_law_fraction" ["_law_top","_law_bottom"] kR:=M6 X G h21 (fun f fd F=>F.binds (ps:=["_law_top","_law_bottom"]) fun _ _ _ _ _ _ us hl=>match us,hl with | [_,_],_=>rfl) (fun f fd F=>DG F B)
 have c__law_plus:U4 l.prog w K mg base 2 "_law_plus" ["_law_one","_law_other"] aw:=M6 X G h22 (fun f fd F=>F.binds (ps:=["_law_one","_law_other"]) fun _ _ _ _ _ _ us hl=>match us,hl with | [_,_],_=>rfl) (fun f fd F=>zl F c__law_fraction)
 have c__law_by:U4 l.prog w K mg base 2 "_law_by" ["_law_one","_law_other"] bt:=M6 X G h23 (fun f fd F=>F.binds (ps:=["_law_one","_law_other"]) fun _ _ _ _ _ _ us hl=>match us,hl with | [_,_],_=>rfl) (fun f fd F=>Gv F c__law_fraction)
 have c_need_two:Z9 l.prog w K mg base 6 "need_two" ["one","other","rule","draws"] (yx c):=bg X G h24 (fun f fd F=>F.binds (ps:=["one","other","rule","draws"]) fun _ _ _ _ _ _ us hl=>match us,hl with | [_,_,_,_],_=>rfl) (fun f fd F=>Gr F B C2 R c_need_urn c_need_rule c_need_number)
 have c_share:U4 l.prog w K mg base 3 "share" ["urn","kind"] eG:=M6 X G h25 (fun f fd F=>F.binds (ps:=["urn","kind"]) fun _ _ _ _ _ _ us hl=>match us,hl with | [_,_],_=>rfl) (fun f fd F=>zi F B c_fraction)
 have c_next_chances_of_two:U4 l.prog w K mg base 4 "next_chances_of_two" ["chances","rule"] (tS l.prog w):=M6 X G h26 (fun f fd F=>F.binds (ps:=["chances","rule"]) fun _ _ _ _ _ _ us hl=>match us,hl with | [_,_],_=>rfl) (fun f fd F=>DE F B B3 c_put_in c_times c_share c_plus)
 have c_two_stands:Z9 l.prog w K mg base 7 "two_stands" ["one","other","rule","draws"] (mP c):=bg X G h27 (fun f fd F=>F.binds (ps:=["one","other","rule","draws"]) fun _ _ _ _ _ _ us hl=>match us,hl with | [_,_,_,_],_=>rfl) (fun f fd F=>Gj F B B3 c_need_two c_own_urn c_next_chances_of_two)
 have c_total:U4 l.prog w K mg base 4 "total" ["fractions"] kM:=M6 X G h28 (fun f fd F=>F.binds (ps:=["fractions"]) fun _ _ _ _ _ _ us hl=>match us,hl with | [_],_=>rfl) (fun f fd F=>zf F c_plus)
 have c_mean_share:U4 l.prog w K mg base 5 "mean_share" ["behind","kind"] yy:=M6 X G h29 (fun f fd F=>F.binds (ps:=["behind","kind"]) fun _ _ _ _ _ _ us hl=>match us,hl with | [_,_],_=>rfl) (fun f fd F=>Gs F c_total c_times c_share)
 have c_two_shares:Z9 l.prog w K mg base 8 "two_shares" ["one","other","rule","draws"] (yw c):=bg X G h30 (fun f fd F=>F.binds (ps:=["one","other","rule","draws"]) fun _ _ _ _ _ _ us hl=>match us,hl with | [_,_,_,_],_=>rfl) (fun f fd F=>Gn F B c_two_stands c_mean_share)
 have c_need_kind:Z9 l.prog w K mg base 2 "need_kind" ["urn","thing"] (dH c):=bg X G h31 (fun f fd F=>F.binds (ps:=["urn","thing"]) fun _ _ _ _ _ _ us hl=>match us,hl with | [_,_],_=>rfl) (fun f fd F=>pB F B R c_is_whole)
 have c_growth_of:U4 l.prog w K mg base 1 "growth_of" ["rule"] dJ:=M6 X G h32 (fun f fd F=>F.binds (ps:=["rule"]) fun _ _ _ _ _ _ us hl=>match us,hl with | [_],_=>rfl) (fun f fd F=>pE F B)
 have c_growth:Z9 l.prog w K mg base 5 "growth" ["kinds","rule"] fY:=bg X G h33 (fun f fd F=>F.binds (ps:=["kinds","rule"]) fun _ _ _ _ _ _ us hl=>match us,hl with | [_,_],_=>rfl) (fun f fd F=>xm F c_need_rule c_growth_of)
 have c_chance:Z9 l.prog w K mg base 6 "chance" ["urn","kind"] (iW c):=bg X G h34 (fun f fd F=>F.binds (ps:=["urn","kind"]) fun _ _ _ _ _ _ us hl=>match us,hl with | [_,_],_=>rfl) (fun f fd F=>xn F c_need_urn c_need_kind c_share)
 have c__law_total:U4 l.prog w K mg base 3 "_law_total" ["_law_some"] kO:=M6 X G h35 (fun f fd F=>F.binds (ps:=["_law_some"]) fun _ _ _ _ _ _ us hl=>match us,hl with | [_],_=>rfl) (fun f fd F=>zj F c__law_plus)
 have c__law_one_right:U4 l.prog w K mg base 8 "_law_one_right" ["_law_one","_law_other","_law_rule_here"] mR:=M6 X G h36 (fun f fd F=>F.binds (ps:=["_law_one","_law_other","_law_rule_here"]) fun _ _ _ _ _ _ us hl=>match us,hl with | [_,_,_],_=>rfl) (fun f fd F=>Gp F B B3 (c__law_plus.up (by decide)) (c_chance.up (by decide)) c_two_stands)
 have c__law_twice_right:U4 l.prog w K mg base 8 "_law_twice_right" ["_law_one","_law_other","_law_rule_here"] mR:=M6 X G h37 (fun f fd F=>F.binds (ps:=["_law_one","_law_other","_law_rule_here"]) fun _ _ _ _ _ _ us hl=>match us,hl with | [_,_,_],_=>rfl) (fun f fd F=>Gk F B B3 c_two_stands (c_is_urn.up (by decide)) (c__law_plus.up (by decide)) (c__law_by.up (by decide)))
 exact DF F B B2 ⟨(c__law_state.up (by decide)),(c__law_take.up (by decide)),(c__law_urn_of.up (by decide)),(c__law_rule.up (by decide)),(c_two_stands.up (by decide)),(c__law_total.up (by decide)),c__law_one_right,(c_growth.up (by decide)),c_two_shares,(c__law_by.up (by decide)),(c__law_fraction.up (by decide)),c__law_twice_right⟩
theorem walk {l:Fg}{q:f6}{loose:List Str}{XP:(Str->Option b8)->Heap->Prop}{YP:j6->Heap->Prop}{d:DefRec}{K:Params->m6} (hn:l.most=some 63) (hdf:d.params.defaults=[])
  (hY:∀(w:j6) (h:Heap),YP w h->(K w.params).In h)
  (F:∀(w:j6) (mg:Str->Option b8) (fa:Addr) (h:Heap),(K w.params).In h->h.Ns r9 mg->mg d.name=some (.ref fa) ->
   ∃fd:A7,(∀(s:b9) (u:b8),og s fd ⟨[u],[]⟩ [("_law_script",u)])/\∀base:Heap,(K w.params).In base->base.Ns r9 mg->L3 l.prog w (K w.params) mg base dA 9 fa fd ["_law_script"] (vw (K w.params))):
  W.WalkO q loose XP YP l.row.toRowW d [] (fun f vs=>yc f vs):=
 L2.AL (n:=63) (k:=9) (x:="_law_script") (CX:=fun _=>dA) (sp:=fun w=>vw (K w.params)) hn (by decide) hdf ⟨rfl,by decide,by decide⟩ hY F (fun _ _ a ns hl _ hS=>⟨a,ns,rfl,hS,hl,fun _=>rfl⟩) fun _ _ _ _ _ z=>z
end G
noncomputable def PySem.Challenge.cw_growurns_k83_whole_two_urns_holds.tw10032643323548740407 : Unit:=()
noncomputable def PySem.Challenge.cw_growurns_k83_whole_two_urns_holds.tw14147015523288236990 : Unit:=()
noncomputable def PySem.Challenge.cw_growurns_k83_whole_two_urns_holds.tw11458559561924815614 : Unit:=()
noncomputable def PySem.Challenge.cw_growurns_k83_whole_two_urns_holds.tw373837062606381886 : Unit:=()
noncomputable def PySem.Challenge.cw_growurns_k83_whole_two_urns_holds.tw16127579800410995654 : Unit:=()
noncomputable def PySem.Challenge.cw_growurns_k83_whole_two_urns_holds.tw8195975889010420256 : Unit:=()
noncomputable def PySem.Challenge.cw_growurns_k83_whole_two_urns_holds.tw17557408566287024310 : Unit:=()
noncomputable def PySem.Challenge.cw_growurns_k83_whole_two_urns_holds.tw17036174781035511866 : Unit:=()
noncomputable def PySem.Challenge.cw_growurns_k83_whole_two_urns_holds.tw13028973323194896597 : Unit:=()
noncomputable def PySem.Challenge.cw_growurns_k83_whole_two_urns_holds.tw2306458851257966452 : Unit:=()
noncomputable def PySem.Challenge.cw_growurns_k83_whole_two_urns_holds.tw14744395691164852484 : Unit:=()
noncomputable def PySem.Challenge.cw_growurns_k83_whole_two_urns_holds.tw5434138733100336589 : Unit:=()
noncomputable def PySem.Challenge.cw_growurns_k83_whole_two_urns_holds.tw3464680281435669464 : Unit:=()
noncomputable def PySem.Challenge.cw_growurns_k83_whole_two_urns_holds.tw5561928903316200882 : Unit:=()
noncomputable def PySem.Challenge.cw_growurns_k83_whole_two_urns_holds.tw3826339764628312957 : Unit:=()
noncomputable def PySem.Challenge.cw_growurns_k83_whole_two_urns_holds.tw5729483268700196750 : Unit:=()
noncomputable def PySem.Challenge.cw_growurns_k83_whole_two_urns_holds.tw9054120622921104276 : Unit:=()
noncomputable def PySem.Challenge.cw_growurns_k83_whole_two_urns_holds.tw3924991050677172962 : Unit:=()
noncomputable def PySem.Challenge.cw_growurns_k83_whole_two_urns_holds.tw2259547859305021248 : Unit:=()
noncomputable def PySem.Challenge.cw_growurns_k83_whole_two_urns_holds.tw14939887214127097936 : Unit:=()
noncomputable def PySem.Challenge.cw_growurns_k83_whole_two_urns_holds.tw7551622718495199241 : Unit:=()
noncomputable def PySem.Challenge.cw_growurns_k83_whole_two_urns_holds.tw573362939567325308 : Unit:=()
noncomputable def PySem.Challenge.cw_growurns_k83_whole_two_urns_holds.tw13061818395461665552 : Unit:=()
noncomputable def PySem.Challenge.cw_growurns_k83_whole_two_urns_holds.tw7709443088869832836 : Unit:=()
noncomputable def PySem.Challenge.cw_growurns_k83_whole_two_urns_holds.tw536576865232788558 : Unit:=()
noncomputable def PySem.Challenge.cw_growurns_k83_whole_two_urns_holds.tw15252436325755802182 : Unit:=()
noncomputable def PySem.Challenge.cw_growurns_k83_whole_two_urns_holds.tw16259999946358081819 : Unit:=()
noncomputable def PySem.Challenge.cw_growurns_k83_whole_two_urns_holds.tw11487167916931236430 : Unit:=()
noncomputable def PySem.Challenge.cw_growurns_k83_whole_two_urns_holds.tw11724509103078892453 : Unit:=()
noncomputable def PySem.Challenge.cw_growurns_k83_whole_two_urns_holds.tw10793356256948813264 : Unit:=()
noncomputable def PySem.Challenge.cw_growurns_k83_whole_two_urns_holds.tw6352578430323811088 : Unit:=()
noncomputable def PySem.Challenge.cw_growurns_k83_whole_two_urns_holds.tw6432852536043178636 : Unit:=()
noncomputable def PySem.Challenge.cw_growurns_k83_whole_two_urns_holds.tw8992119498168253515 : Unit:=()
noncomputable def PySem.Challenge.cw_growurns_k83_whole_two_urns_holds.tw332076538759734896 : Unit:=()
noncomputable def PySem.Challenge.cw_growurns_k83_whole_two_urns_holds.tw2214932095503825936 : Unit:=()
noncomputable def PySem.Challenge.cw_growurns_k83_whole_two_urns_holds.tw4976117364195007058 : Unit:=()
noncomputable def PySem.Challenge.cw_growurns_k83_whole_two_urns_holds.tw5060437108323174951 : Unit:=()
noncomputable def PySem.Challenge.cw_growurns_k83_whole_two_urns_holds.tw16172859150279491449 : Unit:=()
noncomputable def PySem.Challenge.cw_growurns_k83_whole_two_urns_holds.tw18038650364303228093 : Unit:=()
noncomputable def PySem.Challenge.cw_growurns_k83_whole_two_urns_holds.tw3463489287610633561 : Unit:=()
noncomputable def PySem.Challenge.cw_growurns_k83_whole_two_urns_holds.tw11243675899575026226 : Unit:=()
noncomputable def PySem.Challenge.cw_growurns_k83_whole_two_urns_holds.tw5279260602198953055 : Unit:=()
noncomputable def PySem.Challenge.cw_growurns_k83_whole_two_urns_holds.tw5201142313850536888 : Unit:=()
noncomputable def PySem.Challenge.cw_growurns_k83_whole_two_urns_holds.tw12583860244189457437 : Unit:=()
noncomputable def PySem.Challenge.cw_growurns_k83_whole_two_urns_holds.tw17936661871370503058 : Unit:=()
noncomputable def PySem.Challenge.cw_growurns_k83_whole_two_urns_holds.tw12107697489738704900 : Unit:=()
noncomputable def PySem.Challenge.cw_growurns_k83_whole_two_urns_holds.tw6889416496025040921 : Unit:=()
noncomputable def PySem.Challenge.cw_growurns_k83_whole_two_urns_holds.tw2281533757360651062 : Unit:=()
noncomputable def PySem.Challenge.cw_growurns_k83_whole_two_urns_holds.tw16749053180314763957 : Unit:=()
noncomputable def PySem.Challenge.cw_growurns_k83_whole_two_urns_holds.tw8743867443347619269 : Unit:=()
noncomputable def PySem.Challenge.cw_growurns_k83_whole_two_urns_holds.tw17347596998254959924 : Unit:=()
noncomputable def PySem.Challenge.cw_growurns_k83_whole_two_urns_holds.tw8236365848301191457 : Unit:=()
noncomputable def PySem.Challenge.cw_growurns_k83_whole_two_urns_holds.tw1530533358980212088 : Unit:=()
noncomputable def PySem.Challenge.cw_growurns_k83_whole_two_urns_holds.tw1622895722596373360 : Unit:=()
noncomputable def PySem.Challenge.cw_growurns_k83_whole_two_urns_holds.tw15639802275980763677 : Unit:=()
noncomputable def PySem.Challenge.cw_growurns_k83_whole_two_urns_holds.tw14139357543837907817 : Unit:=()
noncomputable def PySem.Challenge.cw_growurns_k83_whole_two_urns_holds.tw3788755514662554346 : Unit:=()
noncomputable def PySem.Challenge.cw_growurns_k83_whole_two_urns_holds.tw10993797718714140651 : Unit:=()
noncomputable def PySem.Challenge.cw_growurns_k83_whole_two_urns_holds.tw17277415749699751662 : Unit:=()
noncomputable def PySem.Challenge.cw_growurns_k83_whole_two_urns_holds.tw9332276858537034197 : Unit:=()
noncomputable def PySem.Challenge.cw_growurns_k83_whole_two_urns_holds.tw3123024389938247527 : Unit:=()
noncomputable def PySem.Challenge.cw_growurns_k83_whole_two_urns_holds.tw18325275931908965826 : Unit:=()
noncomputable def PySem.Challenge.cw_growurns_k83_whole_two_urns_holds.tw14194440062222336341 : Unit:=()
noncomputable def PySem.Challenge.cw_growurns_k83_whole_two_urns_holds.tw16610866387511704112 : Unit:=()
noncomputable def PySem.Challenge.cw_growurns_k83_whole_two_urns_holds.tw4981502833908134737 : Unit:=()
noncomputable def PySem.Challenge.cw_growurns_k83_whole_two_urns_holds.tw1526109108343760266 : Unit:=()
noncomputable def PySem.Challenge.cw_growurns_k83_whole_two_urns_holds.tw9462645674375365066 : Unit:=()
noncomputable def PySem.Challenge.cw_growurns_k83_whole_two_urns_holds.tw13676832001463794852 : Unit:=()
noncomputable def PySem.Challenge.cw_growurns_k83_whole_two_urns_holds.tw1129644672886710900 : Unit:=()
noncomputable def PySem.Challenge.cw_growurns_k83_whole_two_urns_holds.tw3062963827509136076 : Unit:=()
noncomputable def PySem.Challenge.cw_growurns_k83_whole_two_urns_holds.tw7724522218457847641 : Unit:=()
noncomputable def PySem.Challenge.cw_growurns_k83_whole_two_urns_holds.tw2985727484990259185 : Unit:=()
noncomputable def PySem.Challenge.cw_growurns_k83_whole_two_urns_holds.tw78517045421324658 : Unit:=()
noncomputable def PySem.Challenge.cw_growurns_k83_whole_two_urns_holds.tw5391968681191693823 : Unit:=()
noncomputable def PySem.Challenge.cw_growurns_k83_whole_two_urns_holds.tw15640969748549414031 : Unit:=()
noncomputable def PySem.Challenge.cw_growurns_k83_whole_two_urns_holds.tw4785493273295199861 : Unit:=()
noncomputable def PySem.Challenge.cw_growurns_k83_whole_two_urns_holds.tw2837649690229582786 : Unit:=()
noncomputable def PySem.Challenge.cw_growurns_k83_whole_two_urns_holds.tw9655382346591956109 : Unit:=()
noncomputable def PySem.Challenge.cw_growurns_k83_whole_two_urns_holds.tw18048292654447497329 : Unit:=()
noncomputable def PySem.Challenge.cw_growurns_k83_whole_two_urns_holds.tw14713822313764697744 : Unit:=()
noncomputable def PySem.Challenge.cw_growurns_k83_whole_two_urns_holds.tw3693713425001146933 : Unit:=()
noncomputable def PySem.Challenge.cw_growurns_k83_whole_two_urns_holds.tw15688036996251895700 : Unit:=()
noncomputable def PySem.Challenge.cw_growurns_k83_whole_two_urns_holds.tw1603261711890075002 : Unit:=()
noncomputable def PySem.Challenge.cw_growurns_k83_whole_two_urns_holds.tw12410900897779495506 : Unit:=()
noncomputable def PySem.Challenge.cw_growurns_k83_whole_two_urns_holds.tw2159950139578056606 : Unit:=()
noncomputable def PySem.Challenge.cw_growurns_k83_whole_two_urns_holds.tw7785152125973399899 : Unit:=()
noncomputable def PySem.Challenge.cw_growurns_k83_whole_two_urns_holds.tw8184139629683415932 : Unit:=()
noncomputable def PySem.Challenge.cw_growurns_k83_whole_two_urns_holds.tw11962545801122301981 : Unit:=()
noncomputable def PySem.Challenge.cw_growurns_k83_whole_two_urns_holds.tw11995786027239151470 : Unit:=()
noncomputable def PySem.Challenge.cw_growurns_k83_whole_two_urns_holds.tw16925586845548076197 : Unit:=()
noncomputable def PySem.Challenge.cw_growurns_k83_whole_two_urns_holds.tw9928166563997758500 : Unit:=()
noncomputable def PySem.Challenge.cw_growurns_k83_whole_two_urns_holds.tw2117200741169251817 : Unit:=()
noncomputable def PySem.Challenge.cw_growurns_k83_whole_two_urns_holds.tw15182702911469972028 : Unit:=()
noncomputable def PySem.Challenge.cw_growurns_k83_whole_two_urns_holds.tw7992534088228458700 : Unit:=()
noncomputable def PySem.Challenge.cw_growurns_k83_whole_two_urns_holds.tw414051994578968333 : Unit:=()
noncomputable def PySem.Challenge.cw_growurns_k83_whole_two_urns_holds.tw1716943824355643541 : Unit:=()
noncomputable def PySem.Challenge.cw_growurns_k83_whole_two_urns_holds.tw2034690838276286047 : Unit:=()
noncomputable def PySem.Challenge.cw_growurns_k83_whole_two_urns_holds.tw8445826259585592544 : Unit:=()
noncomputable def PySem.Challenge.cw_growurns_k83_whole_two_urns_holds.tw11444370216198386672 : Unit:=()
noncomputable def PySem.Challenge.cw_growurns_k83_whole_two_urns_holds.tw1211568042927140688 : Unit:=()
noncomputable def PySem.Challenge.cw_growurns_k83_whole_two_urns_holds.tw2153232261650674018 : Unit:=()
noncomputable def PySem.Challenge.cw_growurns_k83_whole_two_urns_holds.tw15365730921665225317 : Unit:=()
noncomputable def PySem.Challenge.cw_growurns_k83_whole_two_urns_holds.tw13348654149692452306 : Unit:=()
noncomputable def PySem.Challenge.cw_growurns_k83_whole_two_urns_holds.tw10975307328009709923 : Unit:=()
noncomputable def PySem.Challenge.cw_growurns_k83_whole_two_urns_holds.tw17415194921183859857 : Unit:=()
noncomputable def PySem.Challenge.cw_growurns_k83_whole_two_urns_holds.tw12286723447415966252 : Unit:=()
noncomputable def PySem.Challenge.cw_growurns_k83_whole_two_urns_holds.tw9964777602915333636 : Unit:=()
noncomputable def PySem.Challenge.cw_growurns_k83_whole_two_urns_holds.tw2966436635471041072 : Unit:=()
noncomputable def PySem.Challenge.cw_growurns_k83_whole_two_urns_holds.tw10068792736716207308 : Unit:=()
noncomputable def PySem.Challenge.cw_growurns_k83_whole_two_urns_holds.tw9581080534700619936 : Unit:=()
noncomputable def PySem.Challenge.cw_growurns_k83_whole_two_urns_holds.tw11516538063650233007 : Unit:=()
noncomputable def PySem.Challenge.cw_growurns_k83_whole_two_urns_holds.tw4170373924385206834 : Unit:=()
noncomputable def PySem.Challenge.cw_growurns_k83_whole_two_urns_holds.tw1949748079457995746 : Unit:=()
noncomputable def PySem.Challenge.cw_growurns_k83_whole_two_urns_holds.tw9569905782474052350 : Unit:=()
noncomputable def PySem.Challenge.cw_growurns_k83_whole_two_urns_holds.tw15531745890500258170 : Unit:=()
noncomputable def PySem.Challenge.cw_growurns_k83_whole_two_urns_holds.tw14986774414608445127 : Unit:=()
noncomputable def PySem.Challenge.cw_growurns_k83_whole_two_urns_holds.tw5568687491019905571 : Unit:=()
noncomputable def PySem.Challenge.cw_growurns_k83_whole_two_urns_holds.tw12471282277752585057 : Unit:=()
noncomputable def PySem.Challenge.cw_growurns_k83_whole_two_urns_holds.tw17325839148332597561 : Unit:=()
noncomputable def PySem.Challenge.cw_growurns_k83_whole_two_urns_holds.tw14956328977128014484 : Unit:=()
noncomputable def PySem.Challenge.cw_growurns_k83_whole_two_urns_holds.tw12475295761646933418 : Unit:=()
noncomputable def PySem.Challenge.cw_growurns_k83_whole_two_urns_holds.tw12661813105253541650 : Unit:=()
noncomputable def PySem.Challenge.cw_growurns_k83_whole_two_urns_holds.tw17129841089400260854 : Unit:=()
noncomputable def PySem.Challenge.cw_growurns_k83_whole_two_urns_holds.tw1389385928338918228 : Unit:=()
noncomputable def PySem.Challenge.cw_growurns_k83_whole_two_urns_holds.tw7945301435837141364 : Unit:=()
noncomputable def PySem.Challenge.cw_growurns_k83_whole_two_urns_holds.tw10531220994239152220 : Unit:=()
set_option Elab.async true
open PySem PySem.W PyProof.Rows
set_option maxRecDepth 100000 in
set_option maxHeartbeats 0 in
theorem PySem.Challenge.cw_growurns_k83_whole_two_urns_holds : PySem.Challenge.rw_growurns_k83_whole_two_urns.Holds := by
 w_on;o_law;k_head;(case hw=>w_witness2)
 k_fill
 refine G.walk (l:=PySem.Challenge.rw_growurns_k83_whole_two_urns) rfl rfl (fun w h Y=>W.kIn_of Y) ?F
 case F =>
  intro w mg fa h KX NS hmg
  refine' G.Ef KX NS hmg (G.BI (B:=0) KX NS ?e0 ?e1 ?e2 ?e5 ?e8 ?eX) (G.F2 ?a1 ?l1 ?c1 ?k1) (G.F2 ?a2 ?l2 ?c2 ?k2) (G.F2 ?a3 ?l3 ?c3 ?k3) (G.F2 ?a4 ?l4 ?c4 ?k4) (G.F2 ?a5 ?l5 ?c5 ?k5) (G.F2 ?a6 ?l6 ?c6 ?k6) (G.F2 ?a7 ?l7 ?c7 ?k7) (G.F2 ?a8 ?l8 ?c8 ?k8) (G.F2 ?a9 ?l9 ?c9 ?k9) (G.F2 ?a10 ?l10 ?c10 ?k10) (G.F2 ?a11 ?l11 ?c11 ?k11) (G.F2 ?a12 ?l12 ?c12 ?k12) (G.F2 ?a13 ?l13 ?c13 ?k13) (G.F2 ?a14 ?l14 ?c14 ?k14) (G.F2 ?a15 ?l15 ?c15 ?k15) (G.F2 ?a16 ?l16 ?c16 ?k16) (G.F2 ?a17 ?l17 ?c17 ?k17) (G.F2 ?a18 ?l18 ?c18 ?k18) (G.F2 ?a19 ?l19 ?c19 ?k19) (G.F2 ?a20 ?l20 ?c20 ?k20) (G.F2 ?a21 ?l21 ?c21 ?k21) (G.F2 ?a22 ?l22 ?c22 ?k22) (G.F2 ?a23 ?l23 ?c23 ?k23) (G.F2 ?a24 ?l24 ?c24 ?k24) (G.F2 ?a25 ?l25 ?c25 ?k25) (G.F2 ?a26 ?l26 ?c26 ?k26) (G.F2 ?a27 ?l27 ?c27 ?k27) (G.F2 ?a28 ?l28 ?c28 ?k28) (G.F2 ?a29 ?l29 ?c29 ?k29) (G.F2 ?a30 ?l30 ?c30 ?k30) (G.F2 ?a31 ?l31 ?c31 ?k31) (G.F2 ?a32 ?l32 ?c32 ?k32) (G.F2 ?a33 ?l33 ?c33 ?k33) (G.F2 ?a34 ?l34 ?c34 ?k34) (G.F2 ?a35 ?l35 ?c35 ?k35) (G.F2 ?a36 ?l36 ?c36 ?k36) (G.F2 ?a37 ?l37 ?c37 ?k37) (G.F2 ?la ?ll ?lc ?lk) ?z1 ?z2 ?z3 ?z4 ?z5 ?z6 ?z7 ?z8 ?z9 ?z10 ?z11 ?z12 ?z13 ?z14 ?z15 ?z16 ?m1 ?m2 ?m3 ?m4
  (case e0=>k_is);(case e1=>k_is);(case e2=>k_is);(case e5=>k_is);(case e8=>k_is)
  (case eX=>kernel_rfl)
  (case a1=>k_is);(case l1=>k_is);(case c1=>k_is);(case k1=>k_is)
  (case a2=>k_is);(case l2=>k_is);(case c2=>k_is);(case k2=>k_is)
  (case a3=>k_is);(case l3=>k_is);(case c3=>k_is);(case k3=>k_is)
  (case a4=>k_is);(case l4=>k_is);(case c4=>k_is);(case k4=>k_is)
  (case a5=>k_is);(case l5=>k_is);(case c5=>k_is);(case k5=>k_is)
  (case a6=>k_is);(case l6=>k_is);(case c6=>k_is);(case k6=>k_is)
  (case a7=>k_is);(case l7=>k_is);(case c7=>k_is);(case k7=>k_is)
  (case a8=>k_is);(case l8=>k_is);(case c8=>k_is);(case k8=>k_is)
  (case a9=>k_is);(case l9=>k_is);(case c9=>k_is);(case k9=>k_is)
  (case a10=>k_is);(case l10=>k_is);(case c10=>k_is);(case k10=>k_is)
  (case a11=>k_is);(case l11=>k_is);(case c11=>k_is);(case k11=>k_is)
  (case a12=>k_is);(case l12=>k_is);(case c12=>k_is);(case k12=>k_is)
  (case a13=>k_is);(case l13=>k_is);(case c13=>k_is);(case k13=>k_is)
  (case a14=>k_is);(case l14=>k_is);(case c14=>k_is);(case k14=>k_is)
  (case a15=>k_is);(case l15=>k_is);(case c15=>k_is);(case k15=>k_is)
  (case a16=>k_is);(case l16=>k_is);(case c16=>k_is);(case k16=>k_is)
  (case a17=>k_is);(case l17=>k_is);(case c17=>k_is);(case k17=>k_is)
  (case a18=>k_is);(case l18=>k_is);(case c18=>k_is);(case k18=>k_is)
  (case a19=>k_is);(case l19=>k_is);(case c19=>k_is);(case k19=>k_is)
  (case a20=>k_is);(case l20=>k_is);(case c20=>k_is);(case k20=>k_is)
  (case a21=>k_is);(case l21=>k_is);(case c21=>k_is);(case k21=>k_is)
  (case a22=>k_is);(case l22=>k_is);(case c22=>k_is);(case k22=>k_is)
  (case a23=>k_is);(case l23=>k_is);(case c23=>k_is);(case k23=>k_is)
  (case a24=>k_is);(case l24=>k_is);(case c24=>k_is);(case k24=>k_is)
  (case a25=>k_is);(case l25=>k_is);(case c25=>k_is);(case k25=>k_is)
  (case a26=>k_is);(case l26=>k_is);(case c26=>k_is);(case k26=>k_is)
  (case a27=>k_is);(case l27=>k_is);(case c27=>k_is);(case k27=>k_is)
  (case a28=>k_is);(case l28=>k_is);(case c28=>k_is);(case k28=>k_is)
  (case a29=>k_is);(case l29=>k_is);(case c29=>k_is);(case k29=>k_is)
  (case a30=>k_is);(case l30=>k_is);(case c30=>k_is);(case k30=>k_is)
  (case a31=>k_is);(case l31=>k_is);(case c31=>k_is);(case k31=>k_is)
  (case a32=>k_is);(case l32=>k_is);(case c32=>k_is);(case k32=>k_is)
  (case a33=>k_is);(case l33=>k_is);(case c33=>k_is);(case k33=>k_is)
  (case a34=>k_is);(case l34=>k_is);(case c34=>k_is);(case k34=>k_is)
  (case a35=>k_is);(case l35=>k_is);(case c35=>k_is);(case k35=>k_is)
  (case a36=>k_is);(case l36=>k_is);(case c36=>k_is);(case k36=>k_is)
  (case a37=>k_is);(case l37=>k_is);(case c37=>k_is);(case k37=>k_is)
  (case la=>k_is);(case ll=>k_is);(case lc=>k_is);(case lk=>k_is)
  (case z1=>k_is);(case z2=>k_is);(case z3=>k_is);(case z4=>k_is);(case z5=>k_is);(case z6=>k_is);(case z7=>k_is);(case z8=>k_is);(case z9=>k_is);(case z10=>k_is);(case z11=>k_is);(case z12=>k_is);(case z13=>k_is);(case z14=>k_is);(case z15=>k_is);(case z16=>k_is)
  (case m1=>k_is);(case m2=>k_is);(case m3=>k_is);(case m4=>k_is)
#print axioms PySem.Challenge.cw_growurns_k83_whole_two_urns_holds
